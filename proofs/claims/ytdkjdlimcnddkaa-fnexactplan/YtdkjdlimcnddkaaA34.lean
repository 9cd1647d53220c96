import Derived.Test.YtdkjdlimcnddkaaA33
namespace Go.Proofs.Ytdkjdlimcnddkaa
open Go.RowKit Flt
attribute [local go_sem] alloc_drewN setCell_drewN run_store_float

/-- A code whose lists lie in three rows of its own. -/
structure OCd (W : World) (B : Nat) (v1 v2 v3 : Value) (ins : List Int) (ss : List Ste) (os : List Spn) : Prop where
  r1 : W.ownsRow B 3 1 v1 ins.length (ins.map (Value.int .i64))
  r2 : W.ownsRow B 80 8 v2 ss.length (flatT ss)
  r3 : W.ownsRow B 83 2 v3 os.length (flatP os)
  d12 : ∀ g, v1.ownBlock = some g → v2.ownBlock ≠ some g
  d13 : ∀ g, v1.ownBlock = some g → v3.ownBlock ≠ some g
  d23 : ∀ g, v2.ownBlock = some g → v3.ownBlock ≠ some g
  kl : ∀ v ∈ ss, v.k < 18446744073709551616
theorem OCd.keepC {W W' : World} {S : Nat → Prop} {B : Nat} {v1 v2 v3 : Value} {ins : List Int} {ss : List Ste} {os : List Spn} (f : OCd W B v1 v2 v3 ins ss os) (k : Chg S W W') (hd : ∀ g, B ≤ g → g < W.heap.size → ¬ S g) : OCd W' B v1 v2 v3 ins ss os :=
  ⟨own_keepC f.r1 k (fun g hg => hd g (own_blkV f.r1 hg).1 (own_blkV f.r1 hg).2), own_keepC f.r2 k (fun g hg => hd g (own_blkV f.r2 hg).1 (own_blkV f.r2 hg).2), own_keepC f.r3 k (fun g hg => hd g (own_blkV f.r3 hg).1 (own_blkV f.r3 hg).2), f.d12, f.d13, f.d23, f.kl⟩
theorem OCd.keep {W W' : World} {B : Nat} {v1 v2 v3 : Value} {ins : List Int} {ss : List Ste} {os : List Spn} (f : OCd W B v1 v2 v3 ins ss os) (k : Kept 0 0 W W') : OCd W' B v1 v2 v3 ins ss os := f.keepC (S := fun _ => False) k.chg (fun _ _ _ h => h)
theorem OCd.mono {W : World} {B B' : Nat} {v1 v2 v3 : Value} {ins : List Int} {ss : List Ste} {os : List Spn} (f : OCd W B v1 v2 v3 ins ss os) (h : B' ≤ B) : OCd W B' v1 v2 v3 ins ss os :=
  ⟨own_mono f.r1 h, own_mono f.r2 h, own_mono f.r3 h, f.d12, f.d13, f.d23, f.kl⟩
theorem OCd.cs {W : World} {B : Nat} {a1 a2 a3 : Option Addr} {n1 n2 n3 c1 c2 c3 : Nat} {ins : List Int} {ss : List Ste} {os : List Spn} (f : OCd W B (.slice a1 n1 c1) (.slice a2 n2 c2) (.slice a3 n3 c3) ins ss os) (h1 : ins.length = n1) (h2 : ss.length = n2) (h3 : os.length = n3) : CS W a1 n1 a2 n2 a3 n3 ins ss os := by
  subst h1 h2 h3
  exact ⟨(own_isL f.r1 rfl).mono (Nat.zero_le _) (Nat.le_refl _), (own_tsL f.r2 rfl f.kl).mono (Nat.zero_le _) (Nat.le_refl _), (own_psL f.r3 rfl).mono (Nat.zero_le _) (Nat.le_refl _)⟩
theorem KB.put0 {W : World} {p : Nat} {b0 b1 b2 b3 : Value} (t : KB W p b0 b1 b2 b3) (v : Value) : KB (W.setCell ⟨p, 0, none⟩ v) p v b1 b2 b3 :=
  ⟨by simpa using t.sz, cell_eq _ _ _ _ _ t.q0, by rw [cell_ne _ _ _ _ _ _ (.inr (by omega))]; exact t.q1, by rw [cell_ne _ _ _ _ _ _ (.inr (by omega))]; exact t.q2, by rw [cell_ne _ _ _ _ _ _ (.inr (by omega))]; exact t.q3, by simp [t.f0], by simp [t.f1], by simp [t.f2], by simp [t.f3]⟩
theorem own_formN {base e size n : Nat} {v : Value} {xs : List Value} {W : World} (h : W.ownsRow base e size v n xs) : ∃ a m d, v = .slice a m d ∧ m = n := by
  obtain ⟨a, cap, rfl⟩ := own_form h
  exact ⟨a, n, cap, rfl, rfl⟩
abbrev cnl : Value := cagg none 0 0 none 0 0 none 0 0 0
/-- What both LoadCodes answer. -/
def LDo (w : World) (bs : List Int) (e : Ending) (w' : World) : Prop :=
  (loadB bs = false → e = .returned (.tuple #[cnl, .int .i64 1])) ∧
  (loadB bs = true → ∃ a1 d1 a2 d2 a3 d3, ∃ ss : List Ste, e = .returned (.tuple #[cagg a1 (n1L bs) d1 a2 (n2L bs) d2 a3 (n3L bs) d3 (pkL bs), .int .i64 0]) ∧ ss.map nk = (ssL bs).map nk ∧ OCd w' w.heap.size (.slice a1 (n1L bs) d1) (.slice a2 (n2L bs) d2) (.slice a3 (n3L bs) d3) (insL bs) ss (osL bs)) ∧ Kept 0 0 w w'
abbrev rbox (a : Option Addr) (n c : Nat) : Obj := .cells #[.slice a n c, .bool false] 100
theorem rd_new (w : World) (hi : Nat) (a : Option Addr) (n c : Nat) (bs : List Int) (f : YL w hi a n bs) (hc : n ≤ c) (hc2 : c ≤ 9223372036854775807) (hh : hi ≤ w.heap.size) : RdS (w.alloc (rbox a n c)) hi w.heap.size bs (some 0) := by
  refine RdS.of ⟨⟨a, c, ?_, ?_, ?_, hc2⟩, by go_simp, by simp, by simp, by simp, hh, Nat.zero_le _⟩
  · rw [Nat.sub_zero, f.len]; go_simp
  · rw [Nat.sub_zero, f.len, List.drop_zero]
    exact f.keepC ((kept_alloc 0 0 w (rbox a n c)).chg (S := fun _ => False)) (fun _ _ h => h)
  · rw [Nat.sub_zero, f.len]; exact hc
set_option maxRecDepth 100000 in
set_option maxHeartbeats 8000000 in
theorem implLoad (w : World) (a : Option Addr) (n c : Nat) (bs : List Int) (f : YS w a n bs) (hc : n ≤ c) (hc2 : c ≤ 9223372036854775807) :
    Calls Try.prog 28 #[.slice a n c] w fun e w' => LDo w bs e w' := by
  have HB : Hid (Bts bs) := f.lt
  have HYS : Hid _ := f
  have hY : YL (w.alloc cbox0) w.heap.size a n bs := ⟨f.len, by
    rcases f.at_ with h | ⟨g, off, e, h1, h2⟩
    · exact .inl h
    · exact .inr ⟨g, off, e, h1, by simp; omega, fun k hk => by rw [(kept_alloc 0 0 w cbox0).cell (p := ⟨g, off + k, none⟩) h1 (by omega)]; exact h2 k hk⟩⟩
  have hz1 : (w.alloc cbox0).heap.size = w.heap.size + 1 := by simp
  have HR : Hid _ := rd_new (w.alloc cbox0) w.heap.size a n c bs hY hc hc2 (by omega)
  have ka := kept_alloc 0 0 w cbox0
  have kb := kept_alloc 0 0 (w.alloc cbox0) (rbox a n c)
  have HK : Hid _ := ka.trans kb
  have HA : Hid _ := (kb_start w).keep kb
  rw [hz1] at HR
  have HZ : Hid (((w.alloc cbox0).alloc (rbox a n c)).heap.size = w.heap.size + 1 + 1) := by show _ = _; simp
  clear f hY hz1 ka kb
  go_enter Try.func28, Try.ntmps28
  go_upto_region 2 with fail
  generalize (w.alloc cbox0).alloc (rbox a n c) = w1 at HR HK HA HZ ⊢
  go_wp2_with fail
  refine Calls.mono (number_s w1 _ _ bs (some 0) 2 HR.out HB.out (by decide) (by decide)) ?_
  rintro e w2 ⟨x, rfl, _, s2, _, d2⟩
  have HS2 : Hid (RdS w2 w.heap.size (w.heap.size + 1) bs (s1L bs)) := s2
  have HA2 : Hid _ := HA.out.keepC d2 (by omega)
  have HK2 : Hid _ := Chg.kept HK.out d2 (fun i hi => by omega)
  have HZ2 : Hid (w.heap.size + 2 ≤ w2.heap.size) := by show _ ≤ _; have := d2.size; have := HZ.out; omega
  clear s2 d2 HR HK HA HZ
  go_upto_region 4 with fail
  have kc := kept_alloc 0 0 w2 cbox0
  have HS3 : Hid _ := HS2.out.keepC (kc.chg (S := fun _ => False)) (fun _ _ h => h) (fun h => h)
  have HA3 : Hid _ := HA2.out.keep kc
  have HC3 : Hid _ := kb_start w2
  have HK3 : Hid _ := HK2.out.trans kc
  have HZ3 : Hid ((w2.alloc cbox0).heap.size = w2.heap.size + 1) := by show _ = _; simp
  clear kc HS2 HA2 HK2
  generalize w2.alloc cbox0 = w3 at HS3 HA3 HC3 HK3 HZ3 ⊢
  generalize hC : w2.heap.size = C at HC3 HZ2 HZ3 ⊢
  clear hC
  have hRC : w.heap.size + 1 < C := by have := HZ2.out; omega
  go_wp2_with fail
  refine Calls.mono (counted_i w3 _ _ bs _ HS3.out HB.out) ?_
  rintro e w4 ⟨V1, xs1, rfl, o1, s4, x1, d4⟩
  obtain ⟨a1, m1, d1', hv1, hm1⟩ := own_formN o1
  subst hv1
  have HM1 : Hid _ := hm1
  clear hm1
  have HS4 : Hid (RdS w4 w.heap.size (w.heap.size + 1) bs (s2L bs)) := s4
  have HX1 : Hid _ := x1
  have hC4 := HC3.out.keepC d4 (by omega)
  obtain ⟨_, q0, q1, q2, q3, f0, f1, f2, f3⟩ := hC4
  have kC : ∀ o v, Chg (fun b => b = C) w4 (w4.setCell ⟨C, o, none⟩ v) := fun o v => chg_setCell (S := fun b => b = C) w4 C o v rfl
  have HS5 : Hid _ := HS4.out.keepC (kC 0 (.slice a1 m1 d1')) (fun g hg e => by omega) (by omega)
  have HA5 : Hid _ := (HA3.out.keepC d4 (by omega)).keepC (kC 0 (.slice a1 m1 d1')) (by omega)
  have HC5 : Hid _ := (HC3.out.keepC d4 (by omega)).put0 (.slice a1 m1 d1')
  have HK5 : Hid _ := Chg.kept (Chg.kept HK3.out d4 (fun i hi => by omega)) (kC 0 (.slice a1 m1 d1')) (fun i hi => by omega)
  have HO5 : Hid _ := own_keepC o1 (kC 0 (.slice a1 m1 d1')) (fun g hg e => by have := (own_blkV o1 hg).1; have := HZ3.out; omega)
  have HZ5 : Hid (C < w3.heap.size ∧ w3.heap.size ≤ (w4.setCell ⟨C, 0, none⟩ (.slice a1 m1 d1')).heap.size) := ⟨by have := HZ3.out; omega, Nat.le_trans d4.size (kC 0 (.slice a1 m1 d1')).size⟩
  clear o1 s4 x1 d4 kC HS3 HS4 HA3 HC3 HK3
  go_upto_region 5 with fail
  clear q0 q1 q2 q3 f0 f1 f2 f3
  generalize w4.setCell ⟨C, 0, none⟩ (.slice a1 m1 d1') = w5 at HS5 HA5 HC5 HK5 HO5 HZ5 ⊢
  go_wp2_with fail
  refine Calls.mono (counted_t w5 _ _ bs _ HS5.out HB.out) ?_
  rintro e w6 ⟨V2, xs2, rfl, o2, kl2, s6, x2, d6⟩
  obtain ⟨a2, m2, d2', hv2, hm2⟩ := own_formN o2
  subst hv2
  have HM2 : Hid _ := hm2
  clear hm2
  have HS6 : Hid (RdS w6 w.heap.size (w.heap.size + 1) bs (s3L bs)) := s6
  have HX2 : Hid _ := x2
  have HKL : Hid _ := kl2
  have hC6 := HC5.out.keepC d6 (by omega)
  obtain ⟨_, q0, q1, q2, q3, f0, f1, f2, f3⟩ := hC6
  have kC : ∀ o v, Chg (fun b => b = C) w6 (w6.setCell ⟨C, o, none⟩ v) := fun o v => chg_setCell (S := fun b => b = C) w6 C o v rfl
  have HS7 : Hid _ := HS6.out.keepC (kC 1 (.slice a2 m2 d2')) (fun g hg e => by omega) (by omega)
  have HA7 : Hid _ := (HA5.out.keepC d6 (by omega)).keepC (kC 1 (.slice a2 m2 d2')) (by omega)
  have HC7 : Hid _ := (HC5.out.keepC d6 (by omega)).put1 (.slice a2 m2 d2')
  have HK7 : Hid _ := Chg.kept (Chg.kept HK5.out d6 (fun i hi => by omega)) (kC 1 (.slice a2 m2 d2')) (fun i hi => by omega)
  have HO7 : Hid _ := own_keepC (own_keepC HO5.out d6 (fun g hg e => by have := (own_blkV HO5.out hg).1; have := HZ5.out; omega)) (kC 1 (.slice a2 m2 d2')) (fun g hg e => by have := (own_blkV HO5.out hg).1; have := HZ5.out; omega)
  have HP7 : Hid _ := own_keepC o2 (kC 1 (.slice a2 m2 d2')) (fun g hg e => by have := (own_blkV o2 hg).1; have := HZ5.out; omega)
  have HB5 : Hid (∀ g, (Value.slice a1 m1 d1').ownBlock = some g → g < w5.heap.size) := fun g hg => (own_blkV HO5.out hg).2
  have HZ7 : Hid (w3.heap.size ≤ w5.heap.size ∧ w5.heap.size ≤ (w6.setCell ⟨C, 1, none⟩ (.slice a2 m2 d2')).heap.size) := ⟨HZ5.out.2, Nat.le_trans d6.size (kC 1 (.slice a2 m2 d2')).size⟩
  clear o2 s6 x2 d6 kC HS5 HS6 HA5 HC5 HK5 HO5 kl2
  go_upto_region 6 with fail
  clear q0 q1 q2 q3 f0 f1 f2 f3
  generalize w6.setCell ⟨C, 1, none⟩ (.slice a2 m2 d2') = w7 at HS7 HA7 HC7 HK7 HO7 HP7 HZ7 ⊢
  go_wp2_with fail
  refine Calls.mono (counted_p w7 _ _ bs _ HS7.out HB.out) ?_
  rintro e w8 ⟨V3, xs3, rfl, o3, s8, x3, d8⟩
  obtain ⟨a3, m3, d3', hv3, hm3⟩ := own_formN o3
  subst hv3
  have HM3 : Hid _ := hm3
  clear hm3
  have HS8 : Hid (RdS w8 w.heap.size (w.heap.size + 1) bs (s4L bs)) := s8
  have HX3 : Hid _ := x3
  have hC8 := HC7.out.keepC d8 (by omega)
  obtain ⟨_, q0, q1, q2, q3, f0, f1, f2, f3⟩ := hC8
  have kC : ∀ o v, Chg (fun b => b = C) w8 (w8.setCell ⟨C, o, none⟩ v) := fun o v => chg_setCell (S := fun b => b = C) w8 C o v rfl
  have HS9 : Hid _ := HS8.out.keepC (kC 2 (.slice a3 m3 d3')) (fun g hg e => by omega) (by omega)
  have HA9 : Hid _ := (HA7.out.keepC d8 (by omega)).keepC (kC 2 (.slice a3 m3 d3')) (by omega)
  have HC9 : Hid _ := (HC7.out.keepC d8 (by omega)).put2 (.slice a3 m3 d3')
  have HK9 : Hid _ := Chg.kept (Chg.kept HK7.out d8 (fun i hi => by omega)) (kC 2 (.slice a3 m3 d3')) (fun i hi => by omega)
  have HZC : Hid (C < w3.heap.size) := HZ5.out.1
  have HO9 : Hid (OCd (w8.setCell ⟨C, 2, none⟩ (.slice a3 m3 d3')) w3.heap.size (.slice a1 m1 d1') (.slice a2 m2 d2') (.slice a3 m3 d3') xs1 xs2 xs3) := by
    have h7 := HZ7.out
    have hC' := HZC.out
    refine ⟨own_keepC (own_keepC HO7.out d8 (fun g hg e => by have := (own_blkV HO7.out hg).1; omega)) (kC 2 (.slice a3 m3 d3')) (fun g hg e => by have := (own_blkV HO7.out hg).1; omega), own_mono (own_keepC (own_keepC HP7.out d8 (fun g hg e => by have := (own_blkV HP7.out hg).1; omega)) (kC 2 (.slice a3 m3 d3')) (fun g hg e => by have := (own_blkV HP7.out hg).1; omega)) h7.1, own_mono (own_keepC o3 (kC 2 (.slice a3 m3 d3')) (fun g hg e => by have := (own_blkV o3 hg).1; omega)) (by omega), fun g h1 h2 => ?_, fun g h1 h2 => ?_, fun g h1 h2 => ?_, HKL.out⟩
    · have := HB5.out g h1; have := (own_blkV HP7.out h2).1; omega
    · have := HB5.out g h1; have := (own_blkV o3 h2).1; omega
    · have := (own_blkV HP7.out h1).2; have := (own_blkV o3 h2).1; omega
  clear o3 s8 x3 d8 kC HS7 HS8 HA7 HC7 HK7 HO7 HP7
  go_upto_region 7 with fail
  clear q0 q1 q2 q3 f0 f1 f2 f3
  generalize w8.setCell ⟨C, 2, none⟩ (.slice a3 m3 d3') = w9 at HS9 HA9 HC9 HK9 HO9 ⊢
  go_wp2_with fail
  refine Calls.mono (count_s w9 _ _ bs _ HS9.out HB.out) ?_
  rintro e w10 ⟨pk, rfl, _, s10, x4, d10⟩
  have HS10 : Hid (RdS w10 w.heap.size (w.heap.size + 1) bs (s5L bs)) := s10
  have HX4 : Hid _ := x4
  have hC10 := HC9.out.keepC d10 (by omega)
  obtain ⟨_, q0, q1, q2, q3, f0, f1, f2, f3⟩ := hC10
  have kC : ∀ o v, Chg (fun b => b = C) w10 (w10.setCell ⟨C, o, none⟩ v) := fun o v => chg_setCell (S := fun b => b = C) w10 C o v rfl
  have HS11 : Hid _ := HS10.out.keepC (kC 3 (.int .i64 pk)) (fun g hg e => by omega) (by omega)
  have HA11 : Hid _ := (HA9.out.keepC d10 (by omega)).keepC (kC 3 (.int .i64 pk)) (by omega)
  have HC11 : Hid _ := (HC9.out.keepC d10 (by omega)).put3 (.int .i64 pk)
  have HK11 : Hid _ := Chg.kept (Chg.kept HK9.out d10 (fun i hi => by omega)) (kC 3 (.int .i64 pk)) (fun i hi => by omega)
  have HO11 : Hid _ := (HO9.out.keepC d10 (fun g hg _ e => by have := HZC.out; omega)).keepC (kC 3 (.int .i64 pk)) (fun g hg _ e => by have := HZC.out; omega)
  clear s10 x4 d10 kC HS9 HS10 HA9 HC9 HK9 HO9
  go_upto_region 8 with fail
  clear q0 q1 q2 q3 f0 f1 f2 f3
  generalize w10.setCell ⟨C, 3, none⟩ (.int .i64 pk) = w11 at HS11 HA11 HC11 HK11 HO11 ⊢
  have csh := HS11.out.short
  obtain ⟨_, r0, r1, r2, r3, g0, g1, g2, g3⟩ := HA11.out
  cases hfit : fitL bs
  · have hld : loadB bs = false := by unfold loadB; rw [hfit]; rfl
    rw [s5_none hfit] at csh
    have hbr : (none : Option Nat).isNone = true := rfl
    rw [hbr] at csh
    have HLD : Hid _ := hld
    clear hfit hld hbr
    go_wp2_with fail
    obtain ⟨y0, y1, y2, y3⟩ := put4_0 w11 w.heap.size _ _ _ _ r0 r1 r2 r3 (.slice none 0 0) (.slice none 0 0) (.slice none 0 0) (.int .i64 0)
    have kp := put4_kept w11 w.heap.size (.slice none 0 0) (.slice none 0 0) (.slice none 0 0) (.int .i64 0)
    refine bodyPost_ret (v := .tuple #[cnl, .int .i64 1]) (by simp [results, Try.results28, go_sem, y0, y1, y2, y3]) rfl ⟨fun _ => rfl, fun h => ?_, HK11.out.new kp (by omega)⟩
    rw [HLD.out] at h; cases h
  · have h5 := s5_fit hfit
    obtain ⟨_, e1, e2, e3, e4, _⟩ := s5_some h5
    rw [h5] at csh
    have hbr : (some (p4L bs + 2) : Option Nat).isNone = false := rfl
    rw [hbr] at csh
    have X1 := HX1.out 2 _ e1 e2
    have X2 := HX2.out _ _ e2 e3
    have X3 := HX3.out _ _ e3 e4
    have X4 := HX4.out _ e4 (of_decide_eq_true hfit)
    have XI : xs1 = insL bs := X1
    have XS : xs2 = ssL bs := X2
    have XO : xs3 = osL bs := X3
    have HXP : Hid (pk = pkL bs) := X4
    subst XI XS XO
    have hm1 : m1 = n1L bs := by rw [HM1.out]; exact cntsAt_len _ _ _
    have hm2 : m2 = n2L bs := by rw [HM2.out]; exact stesAt_len _ _ _
    have hm3 : m3 = n3L bs := by rw [HM3.out]; exact spnsAt_len _ _ _
    have HMM : Hid (m1 = n1L bs ∧ m2 = n2L bs ∧ m3 = n3L bs) := ⟨hm1, hm2, hm3⟩
    have HCS : Hid _ := HO11.out.cs HM1.out.symm HM2.out.symm HM3.out.symm
    have HSV : Hid _ := implSave w11 a1 a2 a3 m1 d1' m2 d2' m3 d3' pk (insL bs) (ssL bs) (osL bs) HCS.out
    have HLB : Hid (loadB bs = (savM (insL bs) (ssL bs) (osL bs) pk == bs)) := by
      show _ = _
      unfold loadB
      rw [hfit, HXP.out, Bool.true_and]
    have HSL : Hid _ := sav_lt (insL bs) (ssL bs) (osL bs) pk
    generalize hsb : savM (insL bs) (ssL bs) (osL bs) pk = sb at HSV HLB HSL
    clear hsb X1 X2 X3 X4 h5 e1 e2 e3 e4 hbr hfit hm1 hm2 hm3 HX1 HX2 HX3 HX4
    obtain ⟨_, q0, q1, q2, q3, _⟩ := HC11.out
    go_wp2_with fail
    refine Calls.mono HSV.out ?_
    rintro e w12 ⟨gs, asv, cs, rfl, ys, _, k12⟩
    have HYS12 : Hid _ := ys.ys HSL.out
    have HYA : Hid _ := HYS.out.keep (HK11.out.trans k12)
    have HA12 : Hid _ := HA11.out.keep k12
    have HC12 : Hid _ := HC11.out.keep k12
    have HK12 : Hid _ := HK11.out.trans k12
    have HO12 : Hid _ := HO11.out.keep k12
    have hlc := HZC.out
    have hz12 := HK12.out.size
    clear ys k12 HSV HCS HA11 HC11 HK11 HO11 q0 q1 q2 q3 r0 r1 r2 r3 g0 g1 g2 g3 csh HS11
    generalize sb.length = N at HYS12 ⊢
    obtain ⟨_, r0, r1, r2, r3, g0, g1, g2, g3⟩ := HA12.out
    obtain ⟨_, q0, q1, q2, q3, _⟩ := HC12.out
    go_wp2_with fail
    refine Calls.mono (bytesEq w12 asv a N cs n c sb bs HYS12.out HYA.out) ?_
    rintro e w13 ⟨rfl, rfl⟩
    cases hq : (sb == bs)
    · have HLD : Hid (loadB bs = false) := by show _ = _; rw [HLB.out, hq]
      clear hq
      go_wp2_with fail
      obtain ⟨y0, y1, y2, y3⟩ := put4_0 w12 w.heap.size _ _ _ _ r0 r1 r2 r3 (.slice none 0 0) (.slice none 0 0) (.slice none 0 0) (.int .i64 0)
      have kp := put4_kept w12 w.heap.size (.slice none 0 0) (.slice none 0 0) (.slice none 0 0) (.int .i64 0)
      refine bodyPost_ret (v := .tuple #[cnl, .int .i64 1]) (by simp [results, Try.results28, go_sem, y0, y1, y2, y3]) rfl ⟨fun _ => rfl, fun h => ?_, HK12.out.new kp (by omega)⟩
      rw [HLD.out] at h; cases h
    · have HLD : Hid (loadB bs = true) := by show _ = _; rw [HLB.out, hq]
      clear hq
      go_wp2_with fail
      obtain ⟨y0, y1, y2, y3⟩ := put4_0 w12 w.heap.size _ _ _ _ r0 r1 r2 r3 (.slice a1 m1 d1') (.slice a2 m2 d2') (.slice a3 m3 d3') (.int .i64 pk)
      have kp := put4_kept w12 w.heap.size (.slice a1 m1 d1') (.slice a2 m2 d2') (.slice a3 m3 d3') (.int .i64 pk)
      refine bodyPost_ret (v := .tuple #[cagg a1 m1 d1' a2 m2 d2' a3 m3 d3' pk, .int .i64 0]) (by simp [results, Try.results28, go_sem, y0, y1, y2, y3]) rfl ⟨fun h => ?_, fun _ => ⟨a1, d1', a2, d2', a3, d3', ssL bs, ?_, rfl, ?_⟩, HK12.out.new kp (by omega)⟩
      · rw [HLD.out] at h; cases h
      · rw [← HMM.out.1, ← HMM.out.2.1, ← HMM.out.2.2, ← HXP.out]
      · rw [← HMM.out.1, ← HMM.out.2.1, ← HMM.out.2.2]
        exact (HO12.out.keepC (kp.chg1 (S := fun b => b = w.heap.size) rfl) (fun g hg _ e => by omega)).mono (by omega)
end Go.Proofs.Ytdkjdlimcnddkaa

namespace Go.Proofs.Ytdkjdlimcnddkaa
open Go.RowKit Flt
attribute [local go_sem] alloc_drewN setCell_drewN run_store_float

set_option maxRecDepth 100000 in
set_option maxHeartbeats 1000000 in
theorem markT_zero (w : World) (a : Option Addr) (cap : Nat) (k : Int) : Calls Try.prog 54 #[.slice a 0 cap, .int .i64 k] w fun e w' => e = .returned (.int .i64 k) ∧ w' = w := by
  go_enter Try.func54, Try.ntmps54
  go_wp2_with fail
  refine wp_loop_rounds 1 ?_
  rw [rounds_succ]
  go_wp2
  go_ret
  exact ⟨rfl, rfl⟩
set_option maxRecDepth 100000 in
set_option maxHeartbeats 1000000 in
theorem heldT_zero (w : World) (a : Option Addr) (cap : Nat) (k : Int) : Calls Try.prog 56 #[.slice a 0 cap, .int .i64 k] w fun e w' => e = .returned (.int .i64 k) ∧ w' = w := by
  go_enter Try.func56, Try.ntmps56
  go_wp2_with fail
  refine wp_loop_rounds 1 ?_
  rw [rounds_succ]
  go_wp2
  go_ret
  exact ⟨rfl, rfl⟩
/-- The marks of element i. -/
def tm (k : Int) : Ste := ⟨k, k + 1, k + 1 + 1, k + 1 + 1 + 1, k + 1 + 1 + 1 + 1, k + 1 + 1 + 1 + 1 + 1, k + 1 + 1 + 1 + 1 + 1 + 1, floatOfInt .f64 (k + 1 + 1 + 1 + 1 + 1 + 1 + 1)⟩
set_option maxRecDepth 100000 in
set_option maxHeartbeats 4000000 in
theorem markTA (w : World) (g n cap : Nat) (k : Int) (vs : List Ste) (hF : TA w g n vs) (h0 : 0 ≤ k) (h1 : k ≤ 1099511627776) (hn : n ≤ 1099511627776) :
    Calls Try.prog 54 #[.slice (some ⟨g, 0, none⟩) n cap, .int .i64 k] w fun e w' => e = .returned (.int .i64 (k + 8 * n)) ∧ (∃ ys, TA w' g n ys ∧ ∀ i, i < n → ys.getD i Ste.zero = tm (k + 8 * i)) ∧ Kept g (g + 1) w w' := by
  go_enter Try.func54, Try.ntmps54
  go_wp2_with fail
  go_loopw [1, 5] (fun kv i W => ∃ j : Nat, j ≤ n ∧ i = .int .i64 j ∧ kv = .int .i64 (k + 8 * j) ∧ Hid (∃ ys, TA W g n ys ∧ ∀ i, i < j → ys.getD i Ste.zero = tm (k + 8 * i)) ∧ Kept g (g + 1) w W) (fun _ i _ => n - (intOf i).toNat)
  case atStart => exact ⟨0, Nat.zero_le _, rfl, by simp, ⟨vs, hF, fun i hi => by omega⟩, Kept.refl _ _ _⟩
  case round =>
    obtain ⟨j, hj, rfl, rfl, hY, hKW⟩ := hrel
    obtain ⟨ys, hFW, hy⟩ := hY.out
    by_cases hlt : j < n
    · obtain ⟨d0, d1, d2, d3, d4, d5, d6, d7⟩ := hFW.at_ j hlt
      have c3 := hFW.free
      have R0 : Hid (∀ i, i < j + 1 → (ys.set j (tm (k + 8 * (j : Int)))).getD i Ste.zero = tm (k + 8 * i)) := fun i hi => by
        rw [getD_set ys Ste.zero _ j i (by rw [hFW.len]; exact hlt)]
        by_cases e : i = j
        · subst e; rw [if_pos rfl]
        · rw [if_neg e]; exact hy i (by omega)
      generalize hkk : k + 8 * (j : Int) = kk at R0
      have b0 : 0 ≤ kk := by omega
      have b1 : kk ≤ 10995116277760 := by omega
      have R1 : Hid _ := hFW.step j hlt ⟨kk, kk + 1, kk + 1 + 1, kk + 1 + 1 + 1, kk + 1 + 1 + 1 + 1, kk + 1 + 1 + 1 + 1 + 1, kk + 1 + 1 + 1 + 1 + 1 + 1, floatOfInt .f64 (kk + 1 + 1 + 1 + 1 + 1 + 1 + 1)⟩
      have R2 : Hid _ := hKW.trans (put8_kept wr g (j * 8) ⟨kk, kk + 1, kk + 1 + 1, kk + 1 + 1 + 1, kk + 1 + 1 + 1 + 1, kk + 1 + 1 + 1 + 1 + 1, kk + 1 + 1 + 1 + 1 + 1 + 1, floatOfInt .f64 (kk + 1 + 1 + 1 + 1 + 1 + 1 + 1)⟩)
      have R3 : Hid (k + 8 * (j : Int) = kk) := hkk
      clear hFW hKW hF hkk hy hY
      go_wp2
      go_roundw
      case rel => exact ⟨j + 1, by omega, by go_num, by have := R3.out; congr 1; omega, ⟨_, R1.out, R0.out⟩, R2.out⟩
      case measure => simp [intOf]; omega
    · obtain rfl : j = n := by omega
      clear hF hFW hy
      go_wp2
      go_ret
      exact ⟨rfl, hY.out, hKW⟩
set_option maxRecDepth 100000 in
set_option maxHeartbeats 4000000 in
theorem heldTA (w : World) (g n cap : Nat) (k : Int) (vs : List Ste) (hF : TA w g n vs) (hy : ∀ i, i < n → vs.getD i Ste.zero = tm (k + 8 * i)) (h0 : 0 ≤ k) (h1 : k ≤ 1099511627776) (hn : n ≤ 1099511627776) :
    Calls Try.prog 56 #[.slice (some ⟨g, 0, none⟩) n cap, .int .i64 k] w fun e w' => e = .returned (.int .i64 (k + 8 * n)) ∧ Drawn w w' := by
  have HF : Hid _ := hF
  have HY : Hid _ := hy
  clear hF hy
  go_enter Try.func56, Try.ntmps56
  go_wp2_with fail
  go_loopw [1, 5] (fun kv i W => ∃ j : Nat, j ≤ n ∧ i = .int .i64 j ∧ kv = .int .i64 (k + 8 * j) ∧ Drawn w W) (fun _ i _ => n - (intOf i).toNat)
  case atStart => exact ⟨0, Nat.zero_le _, rfl, by simp, Drawn.refl _⟩
  case round =>
    obtain ⟨j, hj, rfl, rfl, HW⟩ := hrel
    by_cases hlt : j < n
    · have hat := HF.out.at_ j hlt
      rw [HY.out j hlt] at hat
      obtain ⟨d0, d1, d2, d3, d4, d5, d6, d7⟩ := hat
      rw [← HW.cell] at d0 d1 d2 d3 d4 d5 d6 d7
      simp only [tm] at d0 d1 d2 d3 d4 d5 d6 d7
      generalize hkk : k + 8 * (j : Int) = kk at d0 d1 d2 d3 d4 d5 d6 d7
      have b0 : 0 ≤ kk := by omega
      have b1 : kk ≤ 10995116277760 := by omega
      have R3 : Hid (k + 8 * (j : Int) = kk) := hkk
      have e1 : ∀ x : Int, (x != x) = false := fun x => by simp
      have e2 := ofInt_num (kk + 1 + 1 + 1 + 1 + 1 + 1 + 1)
      clear hkk
      go_wp2
      go_roundw
      case rel => exact ⟨j + 1, by omega, by go_num, by have := R3.out; congr 1; omega, HW⟩
      case measure => simp [intOf]; omega
    · obtain rfl : j = n := by omega
      go_wp2
      go_ret
      exact ⟨rfl, HW⟩
/-- Elements in a block of their own, or none. -/
def TZ (w : World) (g : Nat) (a : Option Addr) (n : Nat) (vs : List Ste) : Prop := n = 0 ∨ (a = some ⟨g, 0, none⟩ ∧ TA w g n vs)
theorem TZ.keep {w w' : World} {g n l h : Nat} {a : Option Addr} {xs : List Ste} (f : TZ w g a n xs) (k : Kept l h w w') (hd : g < l ∨ h ≤ g ∨ h ≤ l) : TZ w' g a n xs := f.imp id fun ⟨e, q⟩ => ⟨e, q.keep k hd⟩
/-- The marks stand. -/
def TM (w : World) (g : Nat) (a : Option Addr) (n : Nat) (k : Int) : Prop := ∃ ys, TZ w g a n ys ∧ ∀ i, i < n → ys.getD i Ste.zero = tm (k + 8 * i)
theorem TM.keep {w w' : World} {g n l h : Nat} {a : Option Addr} {m : Int} (f : TM w g a n m) (k : Kept l h w w') (hd : g < l ∨ h ≤ g ∨ h ≤ l) : TM w' g a n m := by
  obtain ⟨ys, h1, h2⟩ := f
  exact ⟨ys, h1.keep k hd, h2⟩
theorem markTZ (w : World) (g n cap : Nat) (a : Option Addr) (k : Int) (xs : List Ste) (hF : TZ w g a n xs) (h0 : 0 ≤ k) (h1 : k ≤ 1099511627776) (hn : n ≤ 1099511627776) :
    Calls Try.prog 54 #[.slice a n cap, .int .i64 k] w fun e w' => e = .returned (.int .i64 (k + 8 * n)) ∧ TM w' g a n k ∧ Kept g (g + 1) w w' := by
  rcases hF with rfl | ⟨rfl, hF⟩
  · exact (markT_zero w a cap k).mono fun e w' ⟨h1, h2⟩ => ⟨by rw [h1]; simp, ⟨[], .inl rfl, fun i hi => by omega⟩, by rw [h2]; exact Kept.refl _ _ _⟩
  · exact (markTA w g n cap k xs hF h0 h1 hn).mono fun e w' ⟨h1, ⟨ys, h2, h3⟩, h4⟩ => ⟨h1, ⟨ys, .inr ⟨rfl, h2⟩, h3⟩, h4⟩
theorem heldTM (w : World) (g n cap : Nat) (a : Option Addr) (k : Int) (hF : TM w g a n k) (h0 : 0 ≤ k) (h1 : k ≤ 1099511627776) (hn : n ≤ 1099511627776) :
    Calls Try.prog 56 #[.slice a n cap, .int .i64 k] w fun e w' => e = .returned (.int .i64 (k + 8 * n)) ∧ Drawn w w' := by
  obtain ⟨ys, rfl | ⟨rfl, hF⟩, hy⟩ := hF
  · exact (heldT_zero w a cap k).mono fun e w' ⟨h1, h2⟩ => ⟨by rw [h1]; simp, 0, h2⟩
  · exact heldTA w g n cap k ys hF hy h0 h1 hn
theorem own_TZ {W : World} {base n d : Nat} {b : Option Addr} {xs : List Ste} (h : W.ownsRow base 80 8 (.slice b n d) n (flatT xs)) (hl : xs.length = n) : n = 0 ∨ ∃ g, b = some ⟨g, 0, none⟩ ∧ base ≤ g ∧ TA W g n xs := by
  rcases h.2 with ⟨_, c⟩ | ⟨g, cap, cur, e, b1, b2, b3, _, b5, b6⟩
  · exact .inl c
  · injection e with q1 q2 q3
    have hg : g < W.heap.size := by
      rcases Nat.lt_or_ge g W.heap.size with c | c
      · exact c
      · rw [Array.getElem?_eq_none c] at b2; cases b2
    refine .inr ⟨g, q1, b1, hl, hg, fun k hk => ?_, fun o => frozen_of_row W g o cur _ b2⟩
    have hc : ∀ j, j < 8 → W.cell? ⟨g, k * 8 + j, none⟩ = (xs.getD k Ste.zero).cells[j]? := fun j hj => by
      rw [cell_of_row W g _ cur _ _ b2, ← Array.getElem?_toList]
      have : (cur.toList.take (n * 8))[k * 8 + j]? = (flatT xs)[k * 8 + j]? := by rw [b6]
      rw [List.getElem?_take_of_lt (by omega), flatT_at _ _ _ (by omega) hj] at this
      exact this
    exact ⟨hc 0 (by omega), hc 1 (by omega), hc 2 (by omega), hc 3 (by omega), hc 4 (by omega), hc 5 (by omega), hc 6 (by omega), hc 7 (by omega)⟩
set_option maxRecDepth 100000 in
set_option maxHeartbeats 1000000 in
theorem markP_zero (w : World) (a : Option Addr) (cap : Nat) (k : Int) : Calls Try.prog 55 #[.slice a 0 cap, .int .i64 k] w fun e w' => e = .returned (.int .i64 k) ∧ w' = w := by
  go_enter Try.func55, Try.ntmps55
  go_wp2_with fail
  refine wp_loop_rounds 1 ?_
  rw [rounds_succ]
  go_wp2
  go_ret
  exact ⟨rfl, rfl⟩
set_option maxRecDepth 100000 in
set_option maxHeartbeats 1000000 in
theorem heldP_zero (w : World) (a : Option Addr) (cap : Nat) (k : Int) : Calls Try.prog 57 #[.slice a 0 cap, .int .i64 k] w fun e w' => e = .returned (.int .i64 k) ∧ w' = w := by
  go_enter Try.func57, Try.ntmps57
  go_wp2_with fail
  refine wp_loop_rounds 1 ?_
  rw [rounds_succ]
  go_wp2
  go_ret
  exact ⟨rfl, rfl⟩
/-- The marks of element i. -/
def pm (k : Int) : Spn := ⟨k, k + 1⟩
set_option maxRecDepth 100000 in
set_option maxHeartbeats 4000000 in
theorem markPA (w : World) (g n cap : Nat) (k : Int) (vs : List Spn) (hF : PA w g n vs) (h0 : 0 ≤ k) (h1 : k ≤ 1099511627776) (hn : n ≤ 1099511627776) :
    Calls Try.prog 55 #[.slice (some ⟨g, 0, none⟩) n cap, .int .i64 k] w fun e w' => e = .returned (.int .i64 (k + 2 * n)) ∧ (∃ ys, PA w' g n ys ∧ ∀ i, i < n → ys.getD i Spn.zero = pm (k + 2 * i)) ∧ Kept g (g + 1) w w' := by
  go_enter Try.func55, Try.ntmps55
  go_wp2_with fail
  go_loopw [1, 5] (fun kv i W => ∃ j : Nat, j ≤ n ∧ i = .int .i64 j ∧ kv = .int .i64 (k + 2 * j) ∧ Hid (∃ ys, PA W g n ys ∧ ∀ i, i < j → ys.getD i Spn.zero = pm (k + 2 * i)) ∧ Kept g (g + 1) w W) (fun _ i _ => n - (intOf i).toNat)
  case atStart => exact ⟨0, Nat.zero_le _, rfl, by simp, ⟨vs, hF, fun i hi => by omega⟩, Kept.refl _ _ _⟩
  case round =>
    obtain ⟨j, hj, rfl, rfl, hY, hKW⟩ := hrel
    obtain ⟨ys, hFW, hy⟩ := hY.out
    by_cases hlt : j < n
    · obtain ⟨d0, d1⟩ := hFW.at_ j hlt
      have c3 := hFW.free
      have R0 : Hid (∀ i, i < j + 1 → (ys.set j (pm (k + 2 * (j : Int)))).getD i Spn.zero = pm (k + 2 * i)) := fun i hi => by
        rw [getD_set ys Spn.zero _ j i (by rw [hFW.len]; exact hlt)]
        by_cases e : i = j
        · subst e; rw [if_pos rfl]
        · rw [if_neg e]; exact hy i (by omega)
      generalize hkk : k + 2 * (j : Int) = kk at R0
      have b0 : 0 ≤ kk := by omega
      have b1 : kk ≤ 10995116277760 := by omega
      have R1 : Hid _ := hFW.step j hlt ⟨kk, kk + 1⟩
      have R2 : Hid _ := hKW.trans (put2p_kept wr g (j * 2) ⟨kk, kk + 1⟩)
      have R3 : Hid (k + 2 * (j : Int) = kk) := hkk
      clear hFW hKW hF hkk hy hY
      go_wp2
      go_roundw
      case rel => exact ⟨j + 1, by omega, by go_num, by have := R3.out; congr 1; omega, ⟨_, R1.out, R0.out⟩, R2.out⟩
      case measure => simp [intOf]; omega
    · obtain rfl : j = n := by omega
      clear hF hFW hy
      go_wp2
      go_ret
      exact ⟨rfl, hY.out, hKW⟩
set_option maxRecDepth 100000 in
set_option maxHeartbeats 4000000 in
theorem heldPA (w : World) (g n cap : Nat) (k : Int) (vs : List Spn) (hF : PA w g n vs) (hy : ∀ i, i < n → vs.getD i Spn.zero = pm (k + 2 * i)) (h0 : 0 ≤ k) (h1 : k ≤ 1099511627776) (hn : n ≤ 1099511627776) :
    Calls Try.prog 57 #[.slice (some ⟨g, 0, none⟩) n cap, .int .i64 k] w fun e w' => e = .returned (.int .i64 (k + 2 * n)) ∧ Drawn w w' := by
  have HF : Hid _ := hF
  have HY : Hid _ := hy
  clear hF hy
  go_enter Try.func57, Try.ntmps57
  go_wp2_with fail
  go_loopw [1, 5] (fun kv i W => ∃ j : Nat, j ≤ n ∧ i = .int .i64 j ∧ kv = .int .i64 (k + 2 * j) ∧ Drawn w W) (fun _ i _ => n - (intOf i).toNat)
  case atStart => exact ⟨0, Nat.zero_le _, rfl, by simp, Drawn.refl _⟩
  case round =>
    obtain ⟨j, hj, rfl, rfl, HW⟩ := hrel
    by_cases hlt : j < n
    · have hat := HF.out.at_ j hlt
      rw [HY.out j hlt] at hat
      obtain ⟨d0, d1⟩ := hat
      rw [← HW.cell] at d0 d1
      simp only [pm] at d0 d1
      generalize hkk : k + 2 * (j : Int) = kk at d0 d1
      have b0 : 0 ≤ kk := by omega
      have b1 : kk ≤ 10995116277760 := by omega
      have R3 : Hid (k + 2 * (j : Int) = kk) := hkk
      have e1 : ∀ x : Int, (x != x) = false := fun x => by simp
      clear hkk
      go_wp2
      go_roundw
      case rel => exact ⟨j + 1, by omega, by go_num, by have := R3.out; congr 1; omega, HW⟩
      case measure => simp [intOf]; omega
    · obtain rfl : j = n := by omega
      go_wp2
      go_ret
      exact ⟨rfl, HW⟩
/-- Elements in a block of their own, or none. -/
def PZ (w : World) (g : Nat) (a : Option Addr) (n : Nat) (vs : List Spn) : Prop := n = 0 ∨ (a = some ⟨g, 0, none⟩ ∧ PA w g n vs)
theorem PZ.keep {w w' : World} {g n l h : Nat} {a : Option Addr} {xs : List Spn} (f : PZ w g a n xs) (k : Kept l h w w') (hd : g < l ∨ h ≤ g ∨ h ≤ l) : PZ w' g a n xs := f.imp id fun ⟨e, q⟩ => ⟨e, q.keep k hd⟩
/-- The marks stand. -/
def PM (w : World) (g : Nat) (a : Option Addr) (n : Nat) (k : Int) : Prop := ∃ ys, PZ w g a n ys ∧ ∀ i, i < n → ys.getD i Spn.zero = pm (k + 2 * i)
theorem PM.keep {w w' : World} {g n l h : Nat} {a : Option Addr} {m : Int} (f : PM w g a n m) (k : Kept l h w w') (hd : g < l ∨ h ≤ g ∨ h ≤ l) : PM w' g a n m := by
  obtain ⟨ys, h1, h2⟩ := f
  exact ⟨ys, h1.keep k hd, h2⟩
theorem markPZ (w : World) (g n cap : Nat) (a : Option Addr) (k : Int) (xs : List Spn) (hF : PZ w g a n xs) (h0 : 0 ≤ k) (h1 : k ≤ 1099511627776) (hn : n ≤ 1099511627776) :
    Calls Try.prog 55 #[.slice a n cap, .int .i64 k] w fun e w' => e = .returned (.int .i64 (k + 2 * n)) ∧ PM w' g a n k ∧ Kept g (g + 1) w w' := by
  rcases hF with rfl | ⟨rfl, hF⟩
  · exact (markP_zero w a cap k).mono fun e w' ⟨h1, h2⟩ => ⟨by rw [h1]; simp, ⟨[], .inl rfl, fun i hi => by omega⟩, by rw [h2]; exact Kept.refl _ _ _⟩
  · exact (markPA w g n cap k xs hF h0 h1 hn).mono fun e w' ⟨h1, ⟨ys, h2, h3⟩, h4⟩ => ⟨h1, ⟨ys, .inr ⟨rfl, h2⟩, h3⟩, h4⟩
theorem heldPM (w : World) (g n cap : Nat) (a : Option Addr) (k : Int) (hF : PM w g a n k) (h0 : 0 ≤ k) (h1 : k ≤ 1099511627776) (hn : n ≤ 1099511627776) :
    Calls Try.prog 57 #[.slice a n cap, .int .i64 k] w fun e w' => e = .returned (.int .i64 (k + 2 * n)) ∧ Drawn w w' := by
  obtain ⟨ys, rfl | ⟨rfl, hF⟩, hy⟩ := hF
  · exact (heldP_zero w a cap k).mono fun e w' ⟨h1, h2⟩ => ⟨by rw [h1]; simp, 0, h2⟩
  · exact heldPA w g n cap k ys hF hy h0 h1 hn
theorem own_PZ {W : World} {base n d : Nat} {b : Option Addr} {xs : List Spn} (h : W.ownsRow base 83 2 (.slice b n d) n (flatP xs)) (hl : xs.length = n) : n = 0 ∨ ∃ g, b = some ⟨g, 0, none⟩ ∧ base ≤ g ∧ PA W g n xs := by
  rcases h.2 with ⟨_, c⟩ | ⟨g, cap, cur, e, b1, b2, b3, _, b5, b6⟩
  · exact .inl c
  · injection e with q1 q2 q3
    have hg : g < W.heap.size := by
      rcases Nat.lt_or_ge g W.heap.size with c | c
      · exact c
      · rw [Array.getElem?_eq_none c] at b2; cases b2
    refine .inr ⟨g, q1, b1, hl, hg, fun k hk => ?_, fun o => frozen_of_row W g o cur _ b2⟩
    have hc : ∀ j, j < 2 → W.cell? ⟨g, k * 2 + j, none⟩ = (xs.getD k Spn.zero).cells[j]? := fun j hj => by
      rw [cell_of_row W g _ cur _ _ b2, ← Array.getElem?_toList]
      have : (cur.toList.take (n * 2))[k * 2 + j]? = (flatP xs)[k * 2 + j]? := by rw [b6]
      rw [List.getElem?_take_of_lt (by omega), flatP_at _ _ _ (by omega) hj] at this
      exact this
    exact ⟨hc 0 (by omega), hc 1 (by omega)⟩
/-- A code whose lists lie in blocks of their own. -/
structure OC3 (w : World) (g1 g2 g3 : Nat) (a1 : Option Addr) (n1 : Nat) (a2 : Option Addr) (n2 : Nat) (a3 : Option Addr) (n3 : Nat) (ins : List Int) (ss : List Ste) (os : List Spn) : Prop where
  i : IZ w g1 a1 n1 ins
  s : TZ w g2 a2 n2 ss
  o : PZ w g3 a3 n3 os
  d12 : g1 ≠ g2
  d13 : g1 ≠ g3
  d23 : g2 ≠ g3
structure CM3 (w : World) (g1 g2 g3 : Nat) (a1 : Option Addr) (n1 : Nat) (a2 : Option Addr) (n2 : Nat) (a3 : Option Addr) (n3 : Nat) (k : Int) : Prop where
  i : IM w g1 a1 n1 k
  s : TM w g2 a2 n2 (k + n1)
  o : PM w g3 a3 n3 (k + n1 + 8 * n2)
theorem OCd.oc3 {W : World} {B : Nat} {a1 a2 a3 : Option Addr} {n1 n2 n3 c1 c2 c3 : Nat} {ins : List Int} {ss : List Ste} {os : List Spn} (f : OCd W B (.slice a1 n1 c1) (.slice a2 n2 c2) (.slice a3 n3 c3) ins ss os) (h1 : ins.length = n1) (h2 : ss.length = n2) (h3 : os.length = n3) (hB : B ≤ W.heap.size) : ∃ g1 g2 g3, OC3 W g1 g2 g3 a1 n1 a2 n2 a3 n3 ins ss os ∧ B ≤ g1 ∧ B ≤ g2 ∧ B ≤ g3 ∧ g1 ≠ W.heap.size ∧ g2 ≠ W.heap.size ∧ g3 ≠ W.heap.size ∧ ((Value.slice a1 n1 c1).ownBlock = some g1 ∨ W.heap.size < g1) ∧ ((Value.slice a2 n2 c2).ownBlock = some g2 ∨ W.heap.size < g2) ∧ ((Value.slice a3 n3 c3).ownBlock = some g3 ∨ W.heap.size < g3) := by
  obtain ⟨r1, r2, r3, d12, d13, d23, _⟩ := f
  rw [h1] at r1
  rw [h2] at r2
  rw [h3] at r3
  have k1 : ∃ g1, IZ W g1 a1 n1 ins ∧ B ≤ g1 ∧ ((g1 < W.heap.size ∧ (Value.slice a1 n1 c1).ownBlock = some g1) ∨ g1 = W.heap.size + 1) := by
    rcases own_io r1 h1 with h | ⟨g, e, hb, q⟩
    · exact ⟨W.heap.size + 1, .inl h, by omega, .inr rfl⟩
    · exact ⟨g, .inr ⟨e, q⟩, hb, .inl ⟨q.lt, by rw [e]; rfl⟩⟩
  have k2 : ∃ g2, TZ W g2 a2 n2 ss ∧ B ≤ g2 ∧ ((g2 < W.heap.size ∧ (Value.slice a2 n2 c2).ownBlock = some g2) ∨ g2 = W.heap.size + 2) := by
    rcases own_TZ r2 h2 with h | ⟨g, e, hb, q⟩
    · exact ⟨W.heap.size + 2, .inl h, by omega, .inr rfl⟩
    · exact ⟨g, .inr ⟨e, q⟩, hb, .inl ⟨q.lt, by rw [e]; rfl⟩⟩
  have k3 : ∃ g3, PZ W g3 a3 n3 os ∧ B ≤ g3 ∧ ((g3 < W.heap.size ∧ (Value.slice a3 n3 c3).ownBlock = some g3) ∨ g3 = W.heap.size + 3) := by
    rcases own_PZ r3 h3 with h | ⟨g, e, hb, q⟩
    · exact ⟨W.heap.size + 3, .inl h, by omega, .inr rfl⟩
    · exact ⟨g, .inr ⟨e, q⟩, hb, .inl ⟨q.lt, by rw [e]; rfl⟩⟩
  obtain ⟨g1, z1, b1, x1⟩ := k1
  obtain ⟨g2, z2, b2, x2⟩ := k2
  obtain ⟨g3, z3, b3, x3⟩ := k3
  refine ⟨g1, g2, g3, ⟨z1, z2, z3, ?_, ?_, ?_⟩, b1, b2, b3, by omega, by omega, by omega, x1.imp (fun h => h.2) (fun h => by omega), x2.imp (fun h => h.2) (fun h => by omega), x3.imp (fun h => h.2) (fun h => by omega)⟩
  · intro e
    subst e
    rcases x1 with ⟨l, o⟩ | l
    · rcases x2 with ⟨_, o2⟩ | l2
      · exact d12 _ o o2
      · omega
    · omega
  · intro e
    subst e
    rcases x1 with ⟨l, o⟩ | l
    · rcases x3 with ⟨_, o2⟩ | l2
      · exact d13 _ o o2
      · omega
    · omega
  · intro e
    subst e
    rcases x2 with ⟨l, o⟩ | l
    · rcases x3 with ⟨_, o2⟩ | l2
      · exact d23 _ o o2
      · omega
    · omega
set_option maxRecDepth 100000 in
set_option maxHeartbeats 2000000 in
theorem markOC (w : World) (g1 g2 g3 n1 n2 n3 c1 c2 c3 : Nat) (a1 a2 a3 : Option Addr) (pk : Int) (ins : List Int) (ss : List Ste) (os : List Spn) (f : OC3 w g1 g2 g3 a1 n1 a2 n2 a3 n3 ins ss os) (q1 : g1 ≠ w.heap.size) (q2 : g2 ≠ w.heap.size) (q3 : g3 ≠ w.heap.size) (k : Int) (h0 : 0 ≤ k) (h1 : k ≤ 1000000000) (b1 : n1 ≤ 1048576) (b2 : n2 ≤ 1048576) (b3 : n3 ≤ 1048576) :
    Calls Try.prog 17 #[cagg a1 n1 c1 a2 n2 c2 a3 n3 c3 pk, .int .i64 k] w fun e w' => e = .returned (.int .i64 (k + n1 + 8 * n2 + 2 * n3)) ∧ CM3 w' g1 g2 g3 a1 n1 a2 n2 a3 n3 k ∧ Chg (fun i => i = g1 ∨ i = g2 ∨ i = g3) w w' := by
  have ka := kept_alloc 0 0 w (cbox a1 n1 c1 a2 n2 c2 a3 n3 c3 pk)
  have hB := c0_start w (.slice a1 n1 c1) (.slice a2 n2 c2) (.slice a3 n3 c3) (.int .i64 pk)
  have HO : Hid (g1 ≠ w.heap.size ∧ g2 ≠ w.heap.size ∧ g3 ≠ w.heap.size ∧ g1 ≠ g2 ∧ g1 ≠ g3 ∧ g2 ≠ g3) := ⟨q1, q2, q3, f.d12, f.d13, f.d23⟩
  have HFI : Hid _ := f.i.keep ka (.inr (.inr (Nat.le_refl _)))
  have HFV : Hid _ := f.s.keep ka (.inr (.inr (Nat.le_refl _)))
  have HFO : Hid _ := f.o.keep ka (.inr (.inr (Nat.le_refl _)))
  have HB : Hid _ := hB
  have HK : Hid (Chg (fun i => i = g1 ∨ i = g2 ∨ i = g3) w (w.alloc (cbox a1 n1 c1 a2 n2 c2 a3 n3 c3 pk))) := ka.chg
  clear f ka hB q1 q2 q3
  go_enter Try.func17, Try.ntmps17
  go_wp2_with fail
  generalize hw1 : w.alloc (cbox a1 n1 c1 a2 n2 c2 a3 n3 c3 pk) = w1 at HFI HFV HFO HB HK ⊢
  clear hw1
  refine Calls.mono (markIZ _ g1 n1 _ a1 k ins HFI.out h0 (by omega) (by omega)) ?_
  rintro e w2 ⟨rfl, m2, k2⟩
  have HM2 : Hid _ := m2
  have HFV2 : Hid _ := TZ.keep HFV.out k2 (by have := HO.out; omega)
  have HFO2 : Hid _ := PZ.keep HFO.out k2 (by have := HO.out; omega)
  have HB2 : Hid _ := C0.keepR HB.out k2 (by have := HO.out; omega)
  have HK2 : Hid _ := Chg.andThen HK.out (k2.chg1 (.inl rfl))
  clear k2 m2 HFI HFV HFO HB HK
  obtain ⟨_, q0, q1, q2, q3⟩ := HB2.out
  go_wp2_with fail
  clear q0 q1 q2 q3
  refine Calls.mono (markTZ _ g2 n2 _ a2 (k + n1) ss HFV2.out (by omega) (by omega) (by omega)) ?_
  rintro e w3 ⟨rfl, m3, k3⟩
  have HM2b : Hid _ := IM.keep HM2.out k3 (by have := HO.out; omega)
  have HM3 : Hid _ := m3
  have HFO3 : Hid _ := PZ.keep HFO2.out k3 (by have := HO.out; omega)
  have HB3 : Hid _ := C0.keepR HB2.out k3 (by have := HO.out; omega)
  have HK3 : Hid _ := Chg.andThen HK2.out (k3.chg1 (.inr (.inl rfl)))
  clear k3 m3 HFV2 HFO2 HB2 HK2 HM2
  obtain ⟨_, q0, q1, q2, q3⟩ := HB3.out
  go_wp2_with fail
  clear q0 q1 q2 q3
  refine Calls.mono (markPZ _ g3 n3 _ a3 (k + n1 + 8 * n2) os HFO3.out (by omega) (by omega) (by omega)) ?_
  rintro e w4 ⟨rfl, m4, k4⟩
  have R1 : Hid _ := IM.keep HM2b.out k4 (by have := HO.out; omega)
  have R2 : Hid _ := TM.keep HM3.out k4 (by have := HO.out; omega)
  have R3 : Hid _ := m4
  have HK4 : Hid _ := Chg.andThen HK3.out (k4.chg1 (.inr (.inr rfl)))
  clear k4 m4 HFO3 HB3 HK3 HM2b HM3
  go_wp2
  go_ret
  exact ⟨rfl, ⟨R1.out, R2.out, R3.out⟩, HK4.out⟩
set_option maxRecDepth 100000 in
set_option maxHeartbeats 2000000 in
theorem heldOC (w : World) (g1 g2 g3 n1 n2 n3 c1 c2 c3 : Nat) (a1 a2 a3 : Option Addr) (pk k : Int) (f : CM3 w g1 g2 g3 a1 n1 a2 n2 a3 n3 k) (h0 : 0 ≤ k) (h1 : k ≤ 1000000000) (b1 : n1 ≤ 1048576) (b2 : n2 ≤ 1048576) (b3 : n3 ≤ 1048576) :
    Calls Try.prog 18 #[cagg a1 n1 c1 a2 n2 c2 a3 n3 c3 pk, .int .i64 k] w fun e w' => e = .returned (.int .i64 (k + n1 + 8 * n2 + 2 * n3)) ∧ Kept 0 0 w w' := by
  have ka := kept_alloc 0 0 w (cbox a1 n1 c1 a2 n2 c2 a3 n3 c3 pk)
  have hB := c0_start w (.slice a1 n1 c1) (.slice a2 n2 c2) (.slice a3 n3 c3) (.int .i64 pk)
  have HFI : Hid _ := f.i.keep ka (.inr (.inr (Nat.le_refl _)))
  have HFV : Hid _ := f.s.keep ka (.inr (.inr (Nat.le_refl _)))
  have HFO : Hid _ := f.o.keep ka (.inr (.inr (Nat.le_refl _)))
  have HB : Hid _ := hB
  have HK : Hid _ := ka
  clear f ka hB
  go_enter Try.func18, Try.ntmps18
  go_wp2_with fail
  generalize hw1 : w.alloc (cbox a1 n1 c1 a2 n2 c2 a3 n3 c3 pk) = w1 at HFI HFV HFO HB HK ⊢
  clear hw1
  refine Calls.mono (heldIM _ g1 n1 _ a1 k HFI.out h0 (by omega) (by omega)) ?_
  rintro e w2 ⟨rfl, d2⟩
  have k2 := d2.kept 0 0
  have HFV2 : Hid _ := TM.keep HFV.out k2 (.inr (.inr (Nat.le_refl _)))
  have HFO2 : Hid _ := PM.keep HFO.out k2 (.inr (.inr (Nat.le_refl _)))
  have HB2 : Hid _ := C0.keep HB.out k2
  have HK2 : Hid _ := Kept.trans HK.out k2
  have t1 : ¬ (k + (n1 : Int) < 0) := by omega
  clear k2 d2 HFI HFV HFO HB HK
  obtain ⟨_, q0, q1, q2, q3⟩ := HB2.out
  go_wp2_with fail
  clear q0 q1 q2 q3
  refine Calls.mono (heldTM _ g2 n2 _ a2 (k + n1) HFV2.out (by omega) (by omega) (by omega)) ?_
  rintro e w3 ⟨rfl, d3⟩
  have k3 := d3.kept 0 0
  have HFO3 : Hid _ := PM.keep HFO2.out k3 (.inr (.inr (Nat.le_refl _)))
  have HB3 : Hid _ := C0.keep HB2.out k3
  have HK3 : Hid _ := Kept.trans HK2.out k3
  have t2 : ¬ (k + (n1 : Int) + 8 * (n2 : Int) < 0) := by omega
  clear k3 d3 HFV2 HFO2 HB2 HK2
  obtain ⟨_, q0, q1, q2, q3⟩ := HB3.out
  go_wp2_with fail
  clear q0 q1 q2 q3
  refine Calls.mono (heldPM _ g3 n3 _ a3 (k + n1 + 8 * n2) HFO3.out (by omega) (by omega) (by omega)) ?_
  rintro e w4 ⟨rfl, d4⟩
  have HK4 : Hid _ := Kept.trans HK3.out (d4.kept 0 0)
  have t3 : ¬ (k + (n1 : Int) + 8 * (n2 : Int) + 2 * (n3 : Int) < 0) := by omega
  clear d4 HFO3 HB3 HK3
  go_wp2
  go_ret
  exact ⟨rfl, HK4.out⟩
end Go.Proofs.Ytdkjdlimcnddkaa
