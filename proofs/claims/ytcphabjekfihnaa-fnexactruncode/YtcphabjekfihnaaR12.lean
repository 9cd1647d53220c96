import Derived.Test.YtcphabjekfihnaaR08
import Derived.Test.YtcphabjekfihnaaV06
import Derived.Test.YtcphabjekfihnaaR05
namespace Go.Proofs.Ytcphabjekfihnaa
open Go.RowKit Flt
attribute [local go_sem] alloc_drewN setCell_drewN run_store_float

/-- Lists of floats that are read: the first n, the same as rs. -/
def RL (w : World) (rv : Value) (n : Nat) (rs : List (List Nat)) : Prop :=
  n = 0 ∨ ∃ g cap, rv = .slice (some ⟨g, 0, none⟩) n cap ∧ g < w.heap.size ∧ ∀ j, j < n → ∃ b m c, w.cell? ⟨g, j, none⟩ = some (.slice b m c) ∧ Cl w (.slice b m c) (rs.getD j [])
theorem RL.keep {w w' : World} {rv : Value} {n : Nat} {rs : List (List Nat)} (f : RL w rv n rs) (k : Kept 0 0 w w') : RL w' rv n rs := by
  rcases f with h | ⟨g, cap, e, h1, h2⟩
  · exact .inl h
  · refine .inr ⟨g, cap, e, Nat.lt_of_lt_of_le h1 k.size, fun j hj => ?_⟩
    obtain ⟨b, m, c, a1, a2⟩ := h2 j hj
    exact ⟨b, m, c, kcell k h1 a1, a2.keep k⟩
theorem AR.rl {W : World} {base k : Nat} {v : Value} {Vs : List (List Nat)} (f : AR W base v k Vs) : RL W v k Vs := by
  rcases Nat.eq_zero_or_pos k with h | h
  · exact .inl h
  · obtain ⟨g, cap, e, _, hg, hc⟩ := f.cell h
    refine .inr ⟨g, cap, e, hg, fun j hj => ?_⟩
    obtain ⟨b, m, c, a1, a2, _⟩ := hc j hj
    exact ⟨b, m, c, a1, a2⟩
/-- The lists are as long as the steps say. -/
def LenS (ss : List Ste) (rs : List (List Nat)) (n : Nat) : Prop := ∀ k, k < n → ((rs.getD k []).length : Int) = (ss.getD k Ste.zero).len

set_option maxRecDepth 100000 in
set_option maxHeartbeats 4000000 in
theorem l5cell (w : World) (lo hi : Nat) (a1 a2 a3 : Option Addr) (n1 c1 n2 c2 n3 c3 : Nat) (pk : Int) (ss : List Ste) (rs : List (List Nat)) (rv : Value) (f : TS w lo hi a2 n2 ss) (n : Nat) (hR : RL w rv n rs) (hn : n ≤ n2) (hn2 : n2 ≤ 1048576) (hb : Lie ss n) (hL : LenS ss rs n) (C : Nat) (_hC : C ≤ 100000) :
    Calls Try.prog 192 #[cagg a1 n1 c1 a2 n2 c2 a3 n3 c3 pk, rv, .int .i64 (n : Int), .int .i64 (C : Int)] w fun e w' => (∃ x, e = .returned (.float .f64 x) ∧ x < 18446744073709551616 ∧ fb x = fb (cellM ss rs n (C : Int))) ∧ Kept 0 0 w w' := by
  have hK := kept_alloc 0 0 w (cbox a1 n1 c1 a2 n2 c2 a3 n3 c3 pk)
  have HB : Hid _ := c0_start w (.slice a1 n1 c1) (.slice a2 n2 c2) (.slice a3 n3 c3) (.int .i64 pk)
  have HF : Hid _ := f.keep hK (.inr (.inr (Nat.le_refl _)))
  have HR : Hid (RL (w.alloc (cbox a1 n1 c1 a2 n2 c2 a3 n3 c3 pk)) rv n rs) := hR.keep hK
  have HLI : Hid _ := hb
  have HLE : Hid _ := hL
  have HK : Hid _ := hK
  have hwr : IntKind.i64.wrap ((n : Int) - 1) = (n : Int) - 1 := by rw [IntKind.wrap_i64]; omega
  clear hK f hb hL hR
  go_enter Try.func192, Try.ntmps192
  go_wp2_with fail
  generalize w.alloc (cbox a1 n1 c1 a2 n2 c2 a3 n3 c3 pk) = w1 at HB HK HF HR ⊢
  clear hwr
  go_loopw [9] (fun i W => ∃ k : Nat, k ≤ n ∧ i = .int .i64 ((k : Int) - 1) ∧ Hid (cellM ss rs n (C : Int) = cellM ss rs k (C : Int)) ∧ Hid (Kept 0 0 w1 W)) (fun i _ => (intOf i + 1).toNat)
  case atStart => exact ⟨n, Nat.le_refl _, rfl, rfl, Kept.refl _ _ _⟩
  case round =>
    obtain ⟨k, hk, hu9, hA, hW⟩ := hrel
    obtain ⟨_, q0, q1, q2, q3⟩ := HB.out.keep hW.out
    rcases k with _ | j
    · obtain rfl : u9 = .int .i64 (-1) := hu9
      have R : Hid (cellM ss rs n (C : Int) = 0) := hA.out
      have R2 : Hid _ := Kept.trans HK.out hW.out
      clear hA hW
      go_wp2
      go_ret
      exact ⟨⟨0, rfl, by decide, by rw [R.out]⟩, R2.out⟩
    · obtain rfl : u9 = .int .i64 (j : Int) := by rw [hu9]; congr 1; omega
      rcases HF.out.at_ with z0 | ⟨ga, oa, ea, z1, z2, z3, z4⟩
      · omega
      have hat := (z4 j (by omega)).keep z3 hW.out (.inr (.inr (Nat.le_refl _)))
      have hl := HLI.out j (by omega)
      have hle := HLE.out j (by omega)
      have HS : Hid (cellM ss rs n (C : Int) = if (ss.getD j Ste.zero).dst ≤ (C : Int) ∧ (C : Int) < (ss.getD j Ste.zero).dst + (ss.getD j Ste.zero).len then (rs.getD j []).getD ((C : Int) - (ss.getD j Ste.zero).dst).toNat 0 else cellM ss rs j (C : Int)) := hA.out
      generalize ss.getD j Ste.zero = s at hat hl hle HS
      have ka := kept_alloc 0 0 wr s.box
      obtain ⟨x0, x1, x2, x3, x4, x5, x6, x7⟩ := ste_box wr s
      simp only [Nat.zero_add] at x1 x2 x3 x4 x5 x6 x7
      subst ea
      obtain ⟨d0, d1, d2, d3, d4, d5, d6, d7⟩ := hat
      have hjn : j < n2 := by omega
      have hwr : IntKind.i64.wrap (s.dst + s.len) = s.dst + s.len := by rw [IntKind.wrap_i64]; omega
      have hwj : IntKind.i64.wrap ((j : Int) - 1) = (j : Int) - 1 := by rw [IntKind.wrap_i64]; omega
      have R2 : Hid _ := Kept.trans hW.out ka
      have R3 : Hid _ := Kept.trans HK.out R2.out
      clear z1 z2 z3 z4 hu9 hA
      by_cases u : s.dst ≤ (C : Int)
      · by_cases u2 : (C : Int) < s.dst + s.len
        · rcases RL.keep HR.out R2.out with h0 | ⟨gr, capr, er, hg, hc⟩
          · omega
          obtain ⟨b, m, c, g1, g2⟩ := hc j (by omega)
          obtain ⟨b', m', c', zs, ez, hmc, hz, hs⟩ := g2
          cases ez
          have e1 := same_len hs
          have e2 := hz.len
          obtain ⟨D, hD⟩ := Int.eq_ofNat_of_zero_le hl.1
          rcases hz.at_ with h0 | ⟨gz, oz, ebz, _, _, _, hcz⟩
          · omega
          have g3 := hcz (C - D) (by omega)
          have R : Hid (fb (zs.getD (C - D) 0) = fb (cellM ss rs n (C : Int))) := by
            show _ = _
            rw [HS.out, if_pos ⟨u, u2⟩, hD, show ((C : Int) - ((D : Nat) : Int)).toNat = C - D by omega]
            exact same_at hs (C - D)
          have RX : Hid (zs.getD (C - D) 0 < 18446744073709551616) := getD_lt hz.lt _
          have hsub : IntKind.i64.wrap ((C : Int) - s.dst) = ((C - D : Nat) : Int) := by rw [IntKind.wrap_i64]; omega
          have i1 : (0 : Int) ≤ ((C - D : Nat) : Int) := by omega
          have i2 : ((C - D : Nat) : Int) < (m : Int) := by omega
          have i3 : (0 : Int) ≤ (j : Int) := by omega
          have i4 : (j : Int) < (n : Int) := by omega
          have i5 : C - D < m := by omega
          have i6 : j < n := by omega
          subst er ebz
          generalize zs.getD (C - D) 0 = x at g3 R RX
          clear HS hs hz hc hle hcz hW
          generalize C - D = o at g3 hsub i1 i2 i5
          clear hD
          go_wp2_with fail
          go_quiet (fail)
          go_wp2
          go_ret
          exact ⟨⟨x, rfl, RX.out, R.out⟩, Kept.trans R3.out (kept_drewN 0 0 _ _)⟩
        · have R : Hid (cellM ss rs n (C : Int) = cellM ss rs j (C : Int)) := by show _ = _; rw [HS.out, if_neg (fun c => u2 c.2)]
          have u2' : decide ((C : Int) < s.dst + s.len) = false := decide_eq_false u2
          clear HS hW
          go_wp2
          go_roundw
          case rel => exact ⟨j, by omega, rfl, R, R2⟩
          case measure => first | (simp [intOf]; done) | (simp [intOf]; omega)
      · have R : Hid (cellM ss rs n (C : Int) = cellM ss rs j (C : Int)) := by show _ = _; rw [HS.out, if_neg (fun c => u c.1)]
        have u' : decide (s.dst ≤ (C : Int)) = false := decide_eq_false u
        clear HS hW
        go_wp2
        go_roundw
        case rel => exact ⟨j, by omega, rfl, R, R2⟩
        case measure => first | (simp [intOf]; done) | (simp [intOf]; omega)

set_option maxRecDepth 100000 in
set_option maxHeartbeats 4000000 in
theorem l5read (w : World) (lo hi : Nat) (a1 a2 a3 : Option Addr) (n1 c1 n2 c2 n3 c3 : Nat) (pk : Int) (ss : List Ste) (rs : List (List Nat)) (rv : Value) (f : TS w lo hi a2 n2 ss) (n : Nat) (hR : RL w rv n rs) (hn : n ≤ n2) (hn2 : n2 ≤ 1048576) (hb : Lie ss n) (hL : LenS ss rs n) (o m : Nat) (hm1 : 1 ≤ m) (hm : m ≤ 1000) (ho : o ≤ 60000) :
    Calls Try.prog 174 #[cagg a1 n1 c1 a2 n2 c2 a3 n3 c3 pk, rv, .int .i64 (n : Int), .int .i64 (o : Int), .int .i64 (m : Int)] w fun e w' => KS m (fun j => cellM ss rs n ((o + j : Nat) : Int)) w e w' := by
  obtain ⟨i0, hi0, hz0, hz1, hz2⟩ := info_parts infoF
  have hK := kept_alloc 0 0 w (cbox a1 n1 c1 a2 n2 c2 a3 n3 c3 pk)
  have HB : Hid _ := c0_start w (.slice a1 n1 c1) (.slice a2 n2 c2) (.slice a3 n3 c3) (.int .i64 pk)
  have HF : Hid _ := f.keep hK (.inr (.inr (Nat.le_refl _)))
  have HR : Hid (RL (w.alloc (cbox a1 n1 c1 a2 n2 c2 a3 n3 c3 pk)) rv n rs) := hR.keep hK
  have HLI : Hid _ := hb
  have HLE : Hid _ := hL
  have HK : Hid _ := hK
  clear hK f hb hL hR
  go_enter Try.func174, Try.ntmps174
  go_wp2_with fail
  generalize w.alloc (cbox a1 n1 c1 a2 n2 c2 a3 n3 c3 pk) = w1 at HB HK HF HR ⊢
  go_loopw [11, 12] (fun v i W => ∃ k : Nat, k ≤ m ∧ i = .int .i64 k ∧ Hid (Grow w1 k (fun j => cellM ss rs n ((o + j : Nat) : Int)) v W)) (fun _ i _ => m - (intOf i).toNat)
  case atStart => exact ⟨0, Nat.zero_le _, rfl, grow_start w1 _⟩
  case round =>
    obtain ⟨k, hk, rfl, hG⟩ := hrel
    have hKW : Kept 0 0 w1 wr := Grow.kept hG.out
    obtain ⟨_, q0, q1, q2, q3⟩ := HB.out.keep hKW
    by_cases hlt : k < m
    · obtain ⟨zs, hown, hzl, hzlt, hzq, _⟩ := hG.out
      have HX : Hid _ := l5cell wr lo hi a1 a2 a3 n1 c1 n2 c2 n3 c3 pk ss rs rv (HF.out.keep hKW (.inr (.inr (Nat.le_refl _)))) n (RL.keep HR.out hKW) hn hn2 HLI.out HLE.out (o + k) (by omega)
      have hwr : IntKind.i64.wrap ((o : Int) + (k : Int)) = ((o + k : Nat) : Int) := by rw [IntKind.wrap_i64]; omega
      go_wp2_with fail
      refine Calls.mono HX.out ?_
      rintro e w2 ⟨⟨x, rfl, hx1, hx2⟩, k2⟩
      have hown2 := own_keep hown k2
      have hKW2 := Kept.trans hKW k2
      have hz2s := hKW2.size
      clear HX q0 q1 q2 q3 hG
      go_wp2_with (first | (at_builtin; refine wpList_append_own _ rfl _ _ 38 rfl w1.heap.size 23 i0 (.float .f64 0) 1 8 Try.underlying38 hi0 hz0 hz1 hz2 rfl (by decide) _ _ _ rfl (hown2.alloc _) ⟨w2.heap.size, 0, none⟩ 1 1 [.float .f64 x] rfl rfl ?c1 ?c2 ?c3 ?c4 ?c5 ?_))
      case c1 => exact cell_one_new _ _ _
      case c2 => intro u hu; simp at hu; subst hu; rfl
      case c3 => unfold maxLen; omega
      case c4 => omega
      case c5 => simp; omega
      intro v' w9 hown9 hg9 _
      have R : Hid _ := Grow.step hown2 hzl hzlt hzq hKW2 hx1 hx2 hown9 hg9
      clear hown9 hg9 hown hown2 hzl hzlt hzq hKW hKW2 k2 hx1 hx2
      go_wp2
      go_roundw
      case rel => exact ⟨k + 1, by omega, by go_num, R⟩
      case measure => simp [intOf]; omega
    · obtain rfl : k = m := by omega
      have R : Hid _ := Grow.done hG.out hm1 HK.out
      clear hG hKW
      go_wp2
      go_ret
      exact R.out
/-- l5read's answer, as a cell. -/
theorem KS.cn {ss : List Ste} {rs : List (List Nat)} {n o m : Nat} {w w' : World} {e : Ending} (h : KS m (fun j => cellM ss rs n ((o + j : Nat) : Int)) w e w') : ∃ u, e = .returned u ∧ Cn w' w.heap.size u (readM ss rs n (o : Int) (m : Int)) ∧ Kept 0 0 w w' := by
  obtain ⟨a, cap, zs, rfl, h1, h2, h3, h4⟩ := h
  refine ⟨_, rfl, ⟨a, m, cap, zs, rfl, h4, h1, ?_⟩, h3⟩
  refine same_of (by rw [h1.len, readM_len]; omega) fun k hk => ?_
  rw [h1.len] at hk
  rw [h2 k hk, readM_at (by omega)]
  congr 2
end Go.Proofs.Ytcphabjekfihnaa
