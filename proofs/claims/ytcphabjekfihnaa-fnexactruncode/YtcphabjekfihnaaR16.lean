import Derived.Test.YtcphabjekfihnaaR15
import Derived.Deep.RegionHeld3
namespace Go.Proofs.Ytcphabjekfihnaa
open Go.RowKit Flt
attribute [local go_sem] alloc_drewN setCell_drewN run_store_float

set_option maxRecDepth 100000 in
set_option maxHeartbeats 2000000 in
theorem fnRun_long1 (w : World) (a1 a2 a3 b : Option Addr) (n1 c1 n2 c2 n3 c3 m cb : Nat) (pk : Int) (hn1 : n1 ≤ 9223372036854775807) (hn2 : n2 ≤ 9223372036854775807) (hn3 : n3 ≤ 9223372036854775807) (h : (1048576 : Int) - n1 - n2 - n3 < 0) :
    Calls Try.prog 14 #[cagg a1 n1 c1 a2 n2 c2 a3 n3 c3 pk, .slice b m cb] w fun e w' => e = .returned (.bool true) ∧ Below w.heap.size w w' := by
  have HZ : Hid _ := szCode (w.alloc (lcbox a1 n1 c1 a2 n2 c2 a3 n3 c3 pk)) a1 a2 a3 n1 c1 n2 c2 n3 c3 pk 1048576 (by omega) (by omega) hn1 hn2 hn3
  rw [if_pos h] at HZ
  clear hn1 hn2 hn3 h
  go_enter Try.func14, Try.ntmps14
  go_wp2_with fail
  refine Calls.mono HZ.out ?_
  rintro e w1 ⟨rfl, k1⟩
  go_wp2
  go_ret
  exact ⟨rfl, ((kept_alloc 0 0 w _).trans k1).below⟩

set_option maxRecDepth 100000 in
set_option maxHeartbeats 2000000 in
theorem fnRun_long2 (w : World) (a1 a2 a3 b : Option Addr) (n1 c1 n2 c2 n3 c3 m cb : Nat) (pk : Int) (xss : List (List Nat)) (s : SS w b m xss) (h : ¬ ((1048576 : Int) - n1 - n2 - n3 < 0)) (hm : m ≤ 9223372036854775807) (hl : ∀ k, k < m → (xss.getD k []).length ≤ 9223372036854775807) (h2 : (1048576 : Int) - n1 - n2 - n3 - m - total xss < 0) :
    Calls Try.prog 14 #[cagg a1 n1 c1 a2 n2 c2 a3 n3 c3 pk, .slice b m cb] w fun e w' => e = .returned (.bool true) ∧ Below w.heap.size w w' := by
  have HZ : Hid _ := szCode (w.alloc (lcbox a1 n1 c1 a2 n2 c2 a3 n3 c3 pk)) a1 a2 a3 n1 c1 n2 c2 n3 c3 pk 1048576 (by omega) (by omega) (by omega) (by omega) (by omega)
  rw [if_neg h] at HZ
  have hK := kept_alloc 0 0 w (lcbox a1 n1 c1 a2 n2 c2 a3 n3 c3 pk)
  have HY : Hid (∀ w', Kept 0 0 w w' → _) := fun w' k => szSS w' b m cb xss (s.keep k) ((1048576 : Int) - n1 - n2 - n3) (by omega) (by omega) hm hl
  rw [show leftSS ((1048576 : Int) - n1 - n2 - n3) m (total xss) = -1 from if_pos h2] at HY
  have HK : Hid _ := hK
  clear hm hl h2 s hK
  have hx : ¬ ((1048576 : Int) - n1 - n2 - n3 < 0) := h
  generalize hq : (1048576 : Int) - n1 - n2 - n3 = q at HZ HY hx
  clear h hq
  go_enter Try.func14, Try.ntmps14
  go_wp2_with fail
  refine Calls.mono HZ.out ?_
  rintro e w1 ⟨rfl, k1⟩
  have HK1 : Hid _ := Kept.trans HK.out k1
  clear k1 HZ
  go_wp2_with fail
  refine Calls.mono (HY.out _ HK1.out) ?_
  rintro e w2 ⟨rfl, rfl⟩
  go_wp2
  go_ret
  exact ⟨rfl, HK1.out.below⟩

set_option maxRecDepth 100000 in
set_option maxHeartbeats 8000000 in
theorem fnRun (w : World) (a1 a2 a3 b : Option Addr) (n1 c1 n2 c2 n3 c3 m cb : Nat) (pk : Int) (ins : List Int) (ss : List Ste) (os : List Spn) (xss : List (List Nat)) (f : CS w a1 n1 a2 n2 a3 n3 ins ss os) (s : SS w b m xss) (hw : Words xss) (h2 : ¬ ((1048576 : Int) - n1 - n2 - n3 - m - total xss < 0)) :
    Calls Try.prog 14 #[cagg a1 n1 c1 a2 n2 c2 a3 n3 c3 pk, .slice b m cb] w fun e w' => e = .returned (.bool true) ∧ Below w.heap.size w w' := by
  have hlk : ∀ k, k < m → (xss.getD k []).length ≤ 1048576 := fun k hk => by
    have := total_bound (xss := xss) (i := k) (by rw [s.len]; exact hk)
    omega
  have HLK : Hid _ := hlk
  have HZ : Hid _ := szCode (w.alloc (lcbox a1 n1 c1 a2 n2 c2 a3 n3 c3 pk)) a1 a2 a3 n1 c1 n2 c2 n3 c3 pk 1048576 (by omega) (by omega) (by omega) (by omega) (by omega)
  rw [if_neg (by omega)] at HZ
  have HY : Hid (∀ w', Kept 0 0 w w' → _) := fun w' k => szSS w' b m cb xss (s.keep k) ((1048576 : Int) - n1 - n2 - n3) (by omega) (by omega) (by omega) (fun j hj => by have := hlk j hj; omega)
  rw [show leftSS ((1048576 : Int) - n1 - n2 - n3) m (total xss) = (1048576 : Int) - n1 - n2 - n3 - m - total xss from if_neg h2] at HY
  have hK := kept_alloc 0 0 w (lcbox a1 n1 c1 a2 n2 c2 a3 n3 c3 pk)
  have HB : Hid _ := c0_startL w (.slice a1 n1 c1) (.slice a2 n2 c2) (.slice a3 n3 c3) (.int .i64 pk)
  have HF : Hid _ := f.keep hK
  have HS : Hid _ := s.keep hK
  have HWX : Hid _ := hw
  have HLT : Hid _ := f.s.lt
  have HSL : Hid (xss.length = m) := s.len
  have HIL : Hid (ins.length = n1) := f.i.len
  have HTT : Hid (total xss ≤ 1048576) := by show _ ≤ _; omega
  obtain ⟨N, St, Cd, L, hev⟩ := RvS.some ins ss os pk xss n2 n3
  have HEV : Hid _ := hev
  have l1 : n1 ≤ 1048576 := by omega
  have l2 : n2 ≤ 1048576 := by omega
  have l3 : n3 ≤ 1048576 := by omega
  have lm : m ≤ 1048576 := by omega
  have hx : ¬ ((1048576 : Int) - n1 - n2 - n3 < 0) := by omega
  have hx2 := h2
  have HK : Hid _ := hK
  generalize hq2 : (1048576 : Int) - n1 - n2 - n3 - m - total xss = q2 at HY hx2
  generalize hq : (1048576 : Int) - n1 - n2 - n3 = q at HZ HY hx
  clear h2 hq hq2 hlk hw hK f s hev
  go_enter Try.func14, Try.ntmps14
  go_wp2_with fail
  refine Calls.mono HZ.out ?_
  rintro e w1 ⟨rfl, k1⟩
  have HK1 : Hid _ := k1
  clear k1 HZ
  go_wp2_with fail
  refine Calls.mono (HY.out _ (Kept.trans HK.out HK1.out)) ?_
  rintro e w1' ⟨rfl, rfl⟩
  clear HY
  obtain ⟨_, r0, r1, r2, r3⟩ := C0.keep HB.out HK1.out
  go_wp2_with fail
  clear r0 r1 r2 r3
  refine Calls.mono (toCode w1 a1 a2 a3 n1 c1 n2 c2 n3 c3 pk ins ss os (CS.keep HF.out HK1.out) l1 l2 l3) ?_
  rintro e w2 ⟨g1, g2, g3, rfl, hO, k2⟩
  have HO : Hid _ := hO.cs HLT.out
  have HK2 : Hid _ := Kept.trans HK1.out k2
  clear hO k2 HK1
  rw [HIL.out] at HO
  go_wp2_with fail
  refine Calls.mono (toSS w2 b m cb xss (SS.keep HS.out HK2.out) lm HLK.out) ?_
  rintro e w3 ⟨rfl, ⟨gf, cf, hP⟩, k3⟩
  have HO3 : Hid _ := CS.keep HO.out k3
  have HK3 : Hid _ := Kept.trans HK2.out k3
  have HP3 : Hid _ := hP.ss HSL.out
  clear hP k3 HO HK2
  go_wp2_with fail
  refine Calls.mono (specRun w3 _ _ _ _ n1 n1 n2 n2 n3 n3 m m pk ins ss os xss HO3.out HP3.out HWX.out l1 N St Cd L HEV.out) ?_
  rintro e w4 ⟨aw, cw, zw, rfl, hsw, hmw, k4⟩
  have HW4 : Hid _ := hsw
  have HMW : Hid _ := hmw
  have HK4 : Hid _ := Kept.trans HK3.out k4
  have HZA : Hid ((w.alloc (lcbox a1 n1 c1 a2 n2 c2 a3 n3 c3 pk)).heap.size ≤ w4.heap.size) := HK4.out.size
  clear k4 HK3 HO3 HP3 hsw hmw
  obtain ⟨_, r0, r1, r2, r3⟩ := C0.keep HB.out HK4.out
  go_wp2_with fail
  clear r0 r1 r2 r3
  refine Calls.mono (toCode w4 a1 a2 a3 n1 c1 n2 c2 n3 c3 pk ins ss os (CS.keep HF.out HK4.out) l1 l2 l3) ?_
  rintro e w5 ⟨x1, x2, x3, rfl, hO, k5⟩
  have HX5 : Hid _ := hO
  have HK5 : Hid _ := k5
  have HA5 : Hid _ := Kept.trans HK4.out k5
  clear hO k5 HK4
  go_wp2_with fail
  have ka := kept_alloc 0 0 w5 (cbox (some ⟨x1, 0, none⟩) n1 n1 (some ⟨x2, 0, none⟩) n2 n2 (some ⟨x3, 0, none⟩) n3 n3 pk)
  have HX6 : Hid _ := CO.keep HX5.out ka
  have HK6 : Hid _ := Kept.trans HK5.out ka
  have HA6 : Hid _ := Kept.trans HA5.out ka
  have HY6 : Hid _ := c0_start w5 (.slice (some ⟨x1, 0, none⟩) n1 n1) (.slice (some ⟨x2, 0, none⟩) n2 n2) (.slice (some ⟨x3, 0, none⟩) n3 n3) (.int .i64 pk)
  have HX3 : Hid (x3 < (w5.alloc (cbox (some ⟨x1, 0, none⟩) n1 n1 (some ⟨x2, 0, none⟩) n2 n2 (some ⟨x3, 0, none⟩) n3 n3 pk)).heap.size) := HX6.out.o.lt
  have HZ6 : Hid (w4.heap.size ≤ w5.heap.size ∧ w5.heap.size < (w5.alloc (cbox (some ⟨x1, 0, none⟩) n1 n1 (some ⟨x2, 0, none⟩) n2 n2 (some ⟨x3, 0, none⟩) n3 n3 pk)).heap.size) := ⟨HK5.out.size, by simp⟩
  clear ka HX5 HK5 HA5
  generalize w5.alloc (cbox (some ⟨x1, 0, none⟩) n1 n1 (some ⟨x2, 0, none⟩) n2 n2 (some ⟨x3, 0, none⟩) n3 n3 pk) = w6 at HX6 HK6 HA6 HY6 HZ6 HX3 ⊢
  refine Calls.mono (toSS w6 b m cb xss (SS.keep HS.out HA6.out) lm HLK.out) ?_
  rintro e w7 ⟨rfl, ⟨gf7, cf7, hP⟩, k7⟩
  have HP7 : Hid _ := hP
  have HX7 : Hid _ := CO.keep HX6.out k7
  have HK7 : Hid _ := Kept.trans HK6.out k7
  have HA7 : Hid _ := Kept.trans HA6.out k7
  have HY7 : Hid _ := C0.keep HY6.out k7
  have HZ7 : Hid ((w4.heap.size ≤ w5.heap.size ∧ w5.heap.size < w6.heap.size) ∧ w6.heap.size < w7.heap.size) := ⟨HZ6.out, hP.lt⟩
  clear k7 hP HX6 HK6 HA6 HY6 HZ6
  obtain ⟨_, y0, y1, y2, y3⟩ := HY7.out
  go_wp2_with fail
  clear y0 y1 y2 y3
  refine Calls.mono (implRun w7 _ _ _ _ n1 n1 n2 n2 n3 n3 m m pk ins ss os xss (by have := HX7.out.cs HLT.out; rw [HIL.out] at this; exact this) (HP7.out.ss HSL.out) HWX.out l1 N St Cd L HEV.out) ?_
  rintro e w8 ⟨ag, cg, zg, rfl, hog, hmg, ⟨hN, hTg, hlg⟩, k8⟩
  have HG8 : Hid _ := hog
  have HMG : Hid (∀ j, j < N → same (zg.getD j []) (zw.getD j [])) := fun j hj => same_trans (hmg j hj) (same_symm (HMW.out j hj))
  have HTG : Hid _ := hTg
  have HLG : Hid _ := hlg
  have HX8 : Hid _ := CO.keep HX7.out k8
  have HK8 : Hid _ := Kept.trans HK7.out k8
  have HA8 : Hid _ := Kept.trans HA7.out k8
  have HY8 : Hid _ := C0.keep HY7.out k8
  have HP8 : Hid _ := HP7.out.keep k8
  clear k8 hog hmg hTg hlg HX7 HK7 HA7 HY7
  have tt : (Cd != Cd) = false := by simp
  have ts : (St != St) = false := by simp
  go_wp2_with fail
  refine Calls.mono (eqSS w8 ag aw N cg cw zg zw (OS.ss HG8.out) (SS.keep HW4.out HK8.out) (by omega) (fun k hk => by have := HLG.out k hk; omega) HMG.out) ?_
  rintro e w9 ⟨rfl, d9⟩
  have k9 := d9.kept 0 0
  have HG9 : Hid _ := OS.keep HG8.out k9 (Nat.zero_le _)
  have HX9 : Hid _ := CO.keep HX8.out k9
  have HK9 : Hid _ := Kept.trans HK8.out k9
  have HA9 : Hid _ := Kept.trans HA8.out k9
  have HY9 : Hid _ := C0.keep HY8.out k9
  have HP9 : Hid _ := HP8.out.keep k9
  clear k9 d9 HG8 HX8 HK8 HA8 HY8 HP8
  obtain ⟨_, r0, r1, r2, r3⟩ := C0.keep HB.out HA9.out
  obtain ⟨_, y0, y1, y2, y3⟩ := HY9.out
  have HT : Hid (∀ m', _) := fun m' => toCode (w9.drewN m') a1 a2 a3 n1 c1 n2 c2 n3 c3 pk ins ss os (CS.keep (CS.keep HF.out HA9.out) (kept_drewN 0 0 w9 m')) l1 l2 l3
  have HXS : Hid _ := HX9.out.cs HLT.out
  rw [HIL.out] at HXS
  go_wp2_with fail
  go_region_held3 (fun w' => w'.cell? ⟨w.heap.size, 0, none⟩ = some (.slice a1 n1 c1) ∧ w'.cell? ⟨w.heap.size, 1, none⟩ = some (.slice a2 n2 c2) ∧ w'.cell? ⟨w.heap.size, 2, none⟩ = some (.slice a3 n3 c3) ∧ w'.cell? ⟨w.heap.size, 3, none⟩ = some (.int .i64 pk) ∧ w'.cell? ⟨w5.heap.size, 0, none⟩ = some (.slice (some ⟨x1, 0, none⟩) n1 n1) ∧ w'.cell? ⟨w5.heap.size, 1, none⟩ = some (.slice (some ⟨x2, 0, none⟩) n2 n2) ∧ w'.cell? ⟨w5.heap.size, 2, none⟩ = some (.slice (some ⟨x3, 0, none⟩) n3 n3) ∧ w'.cell? ⟨w5.heap.size, 3, none⟩ = some (.int .i64 pk)) (go_keep)
    (first
      | (go_at_call 57; refine Calls.mono (HT.out 1) ?_; rintro e w10 ⟨z1, z2, z3, rfl, hO, k10⟩; have k10' := Kept.trans (kept_drewN 0 0 w9 1) k10; obtain ⟨_, u0, u1, u2, u3⟩ := C0.keep HY9.out k10'; obtain ⟨_, t0, t1, t2, t3⟩ := C0.keep HB.out (Kept.trans HA9.out k10'))
      | (go_at_call 59; refine Calls.mono (eqCode w10 _ _ _ _ _ _ n1 n1 n2 n2 n3 n3 n1 n2 n3 pk ins ss os (CS.keep HXS.out k10') (by have := hO.cs HLT.out; rw [HIL.out] at this; exact this) l1 l2 l3) ?_; rintro e w11 ⟨rfl, k11⟩; have k11' := Kept.trans k10' k11; obtain ⟨_, v0, v1, v2, v3⟩ := C0.keep HY9.out k11'; obtain ⟨_, s0, s1, s2, s3⟩ := C0.keep HB.out (Kept.trans HA9.out k11')))
  have HG11 : Hid _ := OS.keep HG9.out k11' (Nat.zero_le _)
  have HX11 : Hid _ := CO.keep HX9.out k11'
  have HK11 : Hid _ := Kept.trans HK9.out k11'
  have HA11 : Hid _ := Kept.trans HA9.out k11'
  have HY11 : Hid _ := C0.keep HY9.out k11'
  have HP11 : Hid _ := HP9.out.keep k11'
  clear u0 u1 u2 u3 t0 t1 t2 t3 v0 v1 v2 v3 s0 s1 s2 s3 r0 r1 r2 r3 y0 y1 y2 y3 k11' k11 k10' k10 hO HT HXS HG9 HX9 HK9 HA9 HY9 HP9
  go_wp2_with fail
  refine Calls.mono (toSS w11 b m cb xss (SS.keep HS.out HA11.out) lm HLK.out) ?_
  rintro e w12 ⟨rfl, ⟨gf12, cf12, hP12⟩, k12⟩
  have HP12 : Hid _ := HP11.out.keep k12
  have HQ12 : Hid _ := hP12.ss HSL.out
  have HG12 : Hid _ := OS.keep HG11.out k12 (Nat.zero_le _)
  have HX12 : Hid _ := CO.keep HX11.out k12
  have HK12 : Hid _ := Kept.trans HK11.out k12
  have HA12 : Hid _ := Kept.trans HA11.out k12
  have HY12 : Hid _ := C0.keep HY11.out k12
  clear hP12 k12 HP11 HG11 HX11 HK11 HA11 HY11
  go_wp2_with fail
  refine Calls.mono (eqSS w12 _ _ m m m xss xss (HP12.out.ss HSL.out) HQ12.out (by omega) (fun k hk => by have := HLK.out k hk; omega) (fun k _ => same_refl _)) ?_
  rintro e w13 ⟨rfl, d13⟩
  have k13 := d13.kept 0 0
  have HP13 : Hid _ := HP12.out.keep k13
  have HG13 : Hid _ := OS.keep HG12.out k13 (Nat.zero_le _)
  have HX13 : Hid _ := CO.keep HX12.out k13
  have HK13 : Hid _ := Kept.trans HK12.out k13
  have HA13 : Hid _ := Kept.trans HA12.out k13
  have HY13 : Hid _ := C0.keep HY12.out k13
  clear d13 k13 HP12 HQ12 HG12 HX12 HK12 HA12 HY12
  obtain ⟨_, y0, y1, y2, y3⟩ := HY13.out
  go_wp2_with fail
  clear y0 y1 y2 y3
  refine Calls.mono (markC w13 w4.heap.size x1 x2 x3 n1 n2 n3 n1 n2 n3 pk ins ss os HX13.out HIL.out 1 (by omega) (by omega) l1 l2 l3) ?_
  rintro e w14 ⟨rfl, k14⟩
  have HP14 : Hid _ := HP13.out.keepR k14 (by have := HX3.out; omega)
  have HG14 : Hid _ := OS.keep HG13.out k14 (by have := HX3.out; have := HZ7.out; omega)
  have HK14 : Hid _ := Kept.new HK13.out k14 (Nat.le_refl _)
  have HA14 : Hid _ := Kept.new HA13.out k14 HZA.out
  have HKV : Hid (0 ≤ (1 : Int) + n1 + 8 * n2 + 2 * n3 ∧ (1 : Int) + n1 + 8 * n2 + 2 * n3 ≤ 100000000) := ⟨by omega, by omega⟩
  generalize (1 : Int) + n1 + 8 * n2 + 2 * n3 = kv at HKV ⊢
  clear k14 HP13 HG13 HX13 HK13 HA13 HY13
  go_wp2_with fail
  refine Calls.mono (markSS w14 w6.heap.size m m gf7 cf7 xss kv HP14.out HSL.out HKV.out.1 (by have := HKV.out; have := HTT.out; omega) (by omega) w7.heap.size (fun i hi => (HP7.out.own i hi).lt)) ?_
  rintro e w15 ⟨rfl, _, k15⟩
  have HG15 : Hid _ := OS.keep HG14.out k15 (Nat.le_refl _)
  have HK15 : Hid _ := Kept.new HK14.out k15 (by have := HZ7.out; omega)
  have HA15 : Hid _ := Kept.new HA14.out k15 (by have := HZ7.out; have := HZA.out; omega)
  have hkw : ¬ (kv + total xss < 0) := by have := HKV.out; omega
  generalize kv + (total xss : Int) = kw at hkw ⊢
  clear k15 HP14 HG14 HK14 HA14
  go_wp2_with fail
  refine Calls.mono (eqSS w15 ag aw N cg cw zg zw (OS.ss HG15.out) (SS.keep HW4.out HK15.out) (by omega) (fun k hk => by have := HLG.out k hk; omega) HMG.out) ?_
  rintro e w16 ⟨rfl, d16⟩
  have k16 := d16.kept 0 0
  have HG16 : Hid _ := OS.keep HG15.out k16 (Nat.zero_le _)
  have HK16 : Hid _ := Kept.trans HK15.out k16
  have HA16 : Hid _ := Kept.trans HA15.out k16
  clear k16 d16 HG15 HK15 HA15
  go_wp2_with fail
  refine Calls.mono (markOS w16 w7.heap.size ag N cg zg 1 HG16.out (by omega) (by have := HTG.out; omega) (by omega)) ?_
  rintro e w17 ⟨rfl, hm17, k17⟩
  have HM17 : Hid _ := hm17
  have HK17 : Hid _ := Kept.new HK16.out k17 (by have := HZ7.out; omega)
  have HA17 : Hid _ := Kept.new HA16.out k17 (by have := HZ7.out; have := HZA.out; omega)
  clear k17 hm17 HG16 HK16 HA16
  go_wp2_with fail
  refine Calls.mono (heldOMe w17 ag N cg zg 1 HM17.out (by omega) (by have := HTG.out; omega) (by omega)) ?_
  rintro e w18 ⟨rfl, rfl⟩
  have hg0 : ¬ ((1 : Int) + total zg < 0) := by omega
  have hg1 : (((1 : Int) + total zg) != ((1 : Int) + total zg)) = false := by simp
  generalize (1 : Int) + (total zg : Int) = kz at hg0 hg1 ⊢
  clear HM17
  obtain ⟨_, r0, r1, r2, r3⟩ := C0.keep HB.out HA17.out
  go_wp2_with fail
  clear r0 r1 r2 r3
  refine Calls.mono (toCode w17 a1 a2 a3 n1 c1 n2 c2 n3 c3 pk ins ss os (CS.keep HF.out HA17.out) l1 l2 l3) ?_
  rintro e w19 ⟨p1, p2, p3, rfl, hO, k19⟩
  have HO : Hid _ := hO.cs HLT.out
  have HK19 : Hid _ := Kept.trans HK17.out k19
  have HA19 : Hid _ := Kept.trans HA17.out k19
  clear hO k19 HK17 HA17
  rw [HIL.out] at HO
  go_wp2_with fail
  refine Calls.mono (toSS w19 b m cb xss (SS.keep HS.out HA19.out) lm HLK.out) ?_
  rintro e w20 ⟨rfl, ⟨gf20, cf20, hP⟩, k20⟩
  have HO20 : Hid _ := CS.keep HO.out k20
  have HP20 : Hid _ := hP.ss HSL.out
  have HK20 : Hid _ := Kept.trans HK19.out k20
  have HA20 : Hid _ := Kept.trans HA19.out k20
  clear hP k20 HO HK19 HA19
  go_wp2_with fail
  refine Calls.mono (implRun w20 _ _ _ _ n1 n1 n2 n2 n3 n3 m m pk ins ss os xss HO20.out HP20.out HWX.out l1 N St Cd L HEV.out) ?_
  rintro e w21 ⟨ah, ch, zh, rfl, hoh, hmh, ⟨_, _, hlh⟩, k21⟩
  have HH : Hid _ := OS.ss hoh
  have HMH : Hid (∀ j, j < N → same (zh.getD j []) (zw.getD j [])) := fun j hj => same_trans (hmh j hj) (same_symm (HMW.out j hj))
  have HLH : Hid _ := hlh
  have HK21 : Hid _ := Kept.trans HK20.out k21
  have HA21 : Hid _ := Kept.trans HA20.out k21
  clear hoh hmh hlh k21 HK20 HA20 HO20 HP20
  go_wp2_with fail
  refine Calls.mono (eqSS w21 ah aw N ch cw zh zw HH.out (SS.keep HW4.out HK21.out) (by omega) (fun k hk => by have := HLH.out k hk; omega) HMH.out) ?_
  rintro e w22 ⟨rfl, d22⟩
  have R : Hid (Below w.heap.size w w22) := (Kept.trans HK.out (Kept.trans HA21.out (d22.kept 0 0))).below
  clear d22 HK21 HA21 HH HMH HLH
  go_wp2
  go_ret
  exact ⟨rfl, R.out⟩
end Go.Proofs.Ytcphabjekfihnaa
