import Derived.Test.YtcphabjekfihnaaA01
import Derived.Deep.QuietTactic
import Derived.BigQuiet
import Derived.Test.YtcphabjekfihnaaA08
namespace Go.Proofs.Ytcphabjekfihnaa
open Go.RowKit

/-- The reader of a draw: its two cells, and the bytes that it reads. -/
structure Rd (w : World) (P : Nat) (a : Option Addr) (n cap : Nat) (i : Nat) : Prop where
  lt : P < w.heap.size
  cell0 : w.cell? ⟨P, 0, none⟩ = some (.slice a n cap)
  cell1 : w.cell? ⟨P, 1, none⟩ = some (.int .i64 (i : Int))
  fz : w.frozen? ⟨P, 1, none⟩ = false
  hi : i ≤ n
  small : n ≤ 500
  bytes : ∀ k, k < n → ∃ (B off : Nat) (x : Int), a = some ⟨B, off, none⟩ ∧ B < P ∧ 0 ≤ x ∧ x < 256 ∧ w.cell? ⟨B, off + k, none⟩ = some (.int .u8 x)

theorem Rd.keep {w w' : World} {P : Nat} {a : Option Addr} {n cap i : Nat} (h : Rd w P a n cap i) (hb : Below (P + 1) w w') : Rd w' P a n cap i where
  lt := Nat.lt_of_lt_of_le h.lt hb.size
  cell0 := by rw [hb.cell (p := ⟨P, 0, none⟩) (Nat.lt_succ_self P)]; exact h.cell0
  cell1 := by rw [hb.cell (p := ⟨P, 1, none⟩) (Nat.lt_succ_self P)]; exact h.cell1
  fz := by rw [hb.frozen (p := ⟨P, 1, none⟩) (Nat.lt_succ_self P)]; exact h.fz
  hi := h.hi
  small := h.small
  bytes := fun k hk => by
    obtain ⟨B, off, x, e, hB, h0, h1, hc⟩ := h.bytes k hk
    exact ⟨B, off, x, e, hB, h0, h1, by rw [hb.cell (p := ⟨B, off + k, none⟩) (Nat.lt_succ_of_lt hB)]; exact hc⟩

theorem below_drewN' {B : Nat} (w : World) (m : Nat) : Below B w (w.drewN m) := ⟨rfl, rfl, rfl, Nat.le_refl _, fun _ _ => rfl⟩

theorem Rd.step {w : World} {P : Nat} {a : Option Addr} {n cap i : Nat} (h : Rd w P a n cap i) (hi : i < n) (m : Nat) :
    Rd ((w.setCell ⟨P, 1, none⟩ (.int .i64 ((i : Int) + 1))).drewN m) P a n cap (i + 1) where
  lt := by simpa using h.lt
  cell0 := by
    rw [World.cell?_drewN, World.cell?_setCell_other (h := by simp)]; exact h.cell0
  cell1 := by
    rw [World.cell?_drewN, World.cell?_setCell_same (h := h.cell1)]; rfl
  fz := by rw [World.frozen?_drewN, World.frozen?_setCell]; exact h.fz
  hi := hi
  small := h.small
  bytes := fun k hk => by
    obtain ⟨B, off, x, e, hB, h0, h1, hc⟩ := h.bytes k hk
    refine ⟨B, off, x, e, hB, h0, h1, ?_⟩
    rw [World.cell?_drewN, World.cell?_setCell_other (h := by intro c; injection c with c1; omega)]; exact hc

set_option maxHeartbeats 400000 in
theorem next_end (w : World) (P : Nat) (a : Option Addr) (n cap i : Nat) (h : Rd w P a n cap i) (hi : n ≤ i) :
    Calls Try.prog 68 #[.pointer (some ⟨P, 0, none⟩)] w fun e w' => e = .returned (.int .i64 0) ∧ ∃ m, w' = w.drewN m := by
  have h0 := h.cell0
  have h1 := h.cell1
  clear h
  go_enter Try.func68, Try.ntmps68
  go_wp2
  go_quiet (fail)
  go_wp2
  go_ret
  exact ⟨rfl, _, rfl⟩

set_option maxHeartbeats 400000 in
theorem next_more (w : World) (P : Nat) (a : Option Addr) (n cap i : Nat) (h : Rd w P a n cap i) (hi : i < n) :
    Calls Try.prog 68 #[.pointer (some ⟨P, 0, none⟩)] w fun e w' => ∃ x : Int, 0 ≤ x ∧ x < 256 ∧ e = .returned (.int .i64 x) ∧ ∃ m, w' = (w.setCell ⟨P, 1, none⟩ (.int .i64 (i + 1))).drewN m := by
  have h0 := h.cell0
  have h1 := h.cell1
  have h2 := h.fz
  have hn := h.small
  obtain ⟨B, off, x, rfl, hB, hx0, hx1, hx⟩ := h.bytes i hi
  clear h hB
  go_enter Try.func68, Try.ntmps68
  go_wp2
  go_quiet (fail)
  go_wp2
  go_quiet (fail)
  go_wp2
  go_ret
  exact ⟨x, hx0, hx1, rfl, _, rfl⟩

theorem next_any (w : World) (P : Nat) (a : Option Addr) (n cap i : Nat) (h : Rd w P a n cap i) :
    Calls Try.prog 68 #[.pointer (some ⟨P, 0, none⟩)] w fun e w' => ∃ (x i' : Nat), x < 256 ∧ e = .returned (.int .i64 (x : Int)) ∧ Rd w' P a n cap i' ∧ Below P w w' ∧ w'.heap.size = w.heap.size := by
  by_cases hi : i < n
  · refine (next_more w P a n cap i h hi).mono ?_
    rintro e w' ⟨x, h0, h1, rfl, m, rfl⟩
    obtain ⟨x, rfl⟩ := Int.eq_ofNat_of_zero_le h0
    exact ⟨x, i + 1, by omega, rfl, h.step hi m, below_drewN ((Below.refl P w).setCell (p := ⟨P, 1, none⟩) (Nat.le_refl _) _) m, by simp⟩
  · refine (next_end w P a n cap i h (by omega)).mono ?_
    rintro e w' ⟨rfl, m, rfl⟩
    exact ⟨0, i, by omega, rfl, h.keep (below_drewN' w m), below_drewN' w m, rfl⟩
end Go.Proofs.Ytcphabjekfihnaa

namespace Go.Proofs.Ytcphabjekfihnaa
open Go.RowKit Flt
attribute [local go_sem] alloc_drewN setCell_drewN

/-- A slice of bytes that came in. -/
structure Sl8 (w : World) (a : Option Addr) (n cap : Nat) : Prop where
  le : n ≤ cap
  nil : a = none → n = 0 ∧ cap = 0
  bytes : ∀ k, k < n → ∃ (B off : Nat) (x : Int), a = some ⟨B, off, none⟩ ∧ B < w.heap.size ∧ 0 ≤ x ∧ x < 256 ∧ w.cell? ⟨B, off + k, none⟩ = some (.int .u8 x)
theorem Sl8.keep {w w' : World} {a : Option Addr} {n cap : Nat} (h : Sl8 w a n cap) (hb : Below w.heap.size w w') : Sl8 w' a n cap :=
  ⟨h.le, h.nil, fun k hk => by
    obtain ⟨B, off, x, e, hB, h0, h1, hc⟩ := h.bytes k hk
    exact ⟨B, off, x, e, Nat.lt_of_lt_of_le hB hb.size, h0, h1, by rw [hb.cell (p := ⟨B, off + k, none⟩) hB]; exact hc⟩⟩

set_option maxHeartbeats 400000 in
theorem open_small (w : World) (x : Addr) (n cap : Nat) (hn : n ≤ 500) (hc : n ≤ cap) :
    Calls Try.prog 63 #[.slice (some x) n cap] w fun e w' => e = .returned (.pointer (some ⟨w.heap.size, 0, none⟩)) ∧ w' = w.alloc (.cells #[.slice (some x) n cap, .int .i64 0] 161) := by
  go_enter Try.func63, Try.ntmps63
  go_wp2
  go_ret
  exact ⟨rfl, rfl⟩
set_option maxHeartbeats 400000 in
theorem open_big (w : World) (x : Addr) (n cap : Nat) (hn : 500 < n) (hc : n ≤ cap) :
    Calls Try.prog 63 #[.slice (some x) n cap] w fun e w' => e = .returned (.pointer (some ⟨w.heap.size, 0, none⟩)) ∧ w' = w.alloc (.cells #[.slice (some x) 500 cap, .int .i64 0] 161) := by
  have hc2 : 500 ≤ cap := by omega
  go_enter Try.func63, Try.ntmps63
  go_wp2
  go_ret
  exact ⟨rfl, rfl⟩
set_option maxHeartbeats 400000 in
theorem open_nil (w : World) :
    Calls Try.prog 63 #[.slice none 0 0] w fun e w' => e = .returned (.pointer (some ⟨w.heap.size, 0, none⟩)) ∧ w' = w.alloc (.cells #[.slice none 0 0, .int .i64 0] 161) := by
  go_enter Try.func63, Try.ntmps63
  go_wp2
  go_ret
  exact ⟨rfl, rfl⟩

theorem rd_new (w : World) (a : Option Addr) (n m cap : Nat) (h : Sl8 w a n cap) (hm : m ≤ n) (hm' : m ≤ 500) :
    Rd (w.alloc (.cells #[.slice a m cap, .int .i64 0] 161)) w.heap.size a m cap 0 where
  lt := by simp
  cell0 := by simp
  cell1 := by simp
  fz := by simp
  hi := Nat.zero_le _
  small := hm'
  bytes := fun k hk => by
    obtain ⟨B, off, x, e, hB, h0, h1, hc⟩ := h.bytes k (by omega)
    exact ⟨B, off, x, e, hB, h0, h1, by rw [World.cell?_alloc_past (hn := hB)]; exact hc⟩

theorem open_any (w : World) (a : Option Addr) (n cap : Nat) (h : Sl8 w a n cap) :
    Calls Try.prog 63 #[.slice a n cap] w fun e w' => ∃ m, e = .returned (.pointer (some ⟨w.heap.size, 0, none⟩)) ∧ Rd w' w.heap.size a m cap 0 ∧ Below w.heap.size w w' := by
  cases a with
  | none =>
    obtain ⟨rfl, rfl⟩ := h.nil rfl
    refine (open_nil w).mono ?_
    rintro e w' ⟨rfl, rfl⟩
    exact ⟨0, rfl, rd_new w none 0 0 0 h (by omega) (by omega), (Below.refl _ _).alloc (Nat.le_refl _) _⟩
  | some x =>
    by_cases hn : n ≤ 500
    · refine (open_small w x n cap hn h.le).mono ?_
      rintro e w' ⟨rfl, rfl⟩
      exact ⟨n, rfl, rd_new w _ n n cap h (by omega) hn, (Below.refl _ _).alloc (Nat.le_refl _) _⟩
    · refine (open_big w x n cap (by omega) h.le).mono ?_
      rintro e w' ⟨rfl, rfl⟩
      exact ⟨500, rfl, rd_new w _ n 500 cap h (by omega) (by omega), (Below.refl _ _).alloc (Nat.le_refl _) _⟩

theorem run_fneg (b : Nat) (w : World) : (Op.unary .neg (.float .f64 b)).run Try.prog w = .ok (.float .f64 (Op.negFloat .f64 b)) w := rfl
theorem neg_lt {b : Nat} (h : b < 18446744073709551616) : Op.negFloat .f64 b < 18446744073709551616 := by
  obtain ⟨s, r, hr, rfl⟩ := split_word b h
  rw [neg_W s hr]; exact W_lt hr
theorem ofInt_lt (n : Int) : floatOfInt .f64 n < 18446744073709551616 := by
  have := floatOfInt_wf .f64 n
  simpa [Lit.wf] using this

theorem wrap_u64_lt (n : Int) : IntKind.u64.wrap n < 18446744073709551616 := by rw [IntKind.wrap_u64]; omega
theorem or_u64 (a b : Int) (h1 : 0 ≤ a) (h2 : a < 18446744073709551616) (h3 : 0 ≤ b) (h4 : b < 18446744073709551616) : ∃ n : Nat, bits .or .u64 a b = (n : Int) ∧ n < 18446744073709551616 := by
  refine ⟨_, u64_or a b h1 h2 h3 h4, ?_⟩
  have : a.toNat ||| b.toNat < 2 ^ 64 := Nat.or_lt_two_pow (by omega) (by omega)
  simpa using this
/-- What a draw of a float comes to. -/
def FEnd (P : Nat) (a : Option Addr) (n cap : Nat) (w : World) (e : Ending) (w' : World) : Prop :=
  ∃ y i', e = .returned (.float .f64 y) ∧ y < 18446744073709551616 ∧ Rd w' P a n cap i' ∧ Below P w w'

theorem draw_at (x : Nat) : x % 16 < 6 ∨ (6 ≤ x % 16 ∧ x % 16 < 9) ∨ x % 16 = 9 ∨ x % 16 = 10 ∨ x % 16 = 11 ∨ x % 16 = 12 ∨ x % 16 = 13 ∨ x % 16 = 14 ∨ x % 16 = 15 := by omega

end Go.Proofs.Ytcphabjekfihnaa

namespace Go.Proofs.Ytcphabjekfihnaa
open Go.RowKit Flt
attribute [local go_sem] alloc_drewN setCell_drewN

set_option maxRecDepth 100000 in
set_option maxHeartbeats 1000000 in
theorem drawF (w : World) (P : Nat) (a : Option Addr) (n cap i : Nat) (h : Rd w P a n cap i) :
    Calls Try.prog 64 #[.pointer (some ⟨P, 0, none⟩)] w fun e w' => FEnd P a n cap w e w' := by
  have f1 := @run_fquo Try.prog
  have f2 := @run_fmul Try.prog
  have f3 := run_fneg
  go_enter Try.func64, Try.ntmps64
  go_wp2_with fail
  refine (next_any _ _ _ _ _ _ h).mono ?_
  rintro e w1 ⟨x, i1, hx, rfl, h1, hb1, hz1⟩
  clear h
  rcases draw_at x with hk | hk | hk | hk | hk | hk | hk | hk | hk
  · have hk' : (x : Int) % 16 < 6 := by omega
    clear hk hz1
    go_wp2
    go_ret
    exact ⟨_, _, rfl, ofInt_lt _, h1, hb1⟩
  · have hk' : 6 ≤ (x : Int) % 16 := by omega
    have hk'' : (x : Int) % 16 < 9 := by omega
    clear hk hz1
    go_wp2
    go_ret
    exact ⟨_, _, rfl, neg_lt (ofInt_lt _), h1, hb1⟩
  · have hk' : (x : Int) % 16 = 9 := by omega
    clear hk hz1
    go_wp2
    go_ret
    exact ⟨_, _, rfl, fop_lt _ _ _ _, h1.keep (below_drewN' _ _), hb1.trans (below_drewN' _ _)⟩
  · have hk' : (x : Int) % 16 = 10 := by omega
    clear hk hz1
    go_wp2_with fail
    refine (next_any _ _ _ _ _ _ h1).mono ?_
    rintro e w2 ⟨x2, i2, hx2, rfl, h2, hb2, hz2⟩
    clear hz2
    go_wp2
    go_ret
    exact ⟨_, _, rfl, fop_lt _ _ _ _, h2.keep (below_drewN' _ _), hb1.trans (hb2.trans (below_drewN' _ _))⟩
  · have hx' : x = 11 ∨ x = 27 ∨ x = 43 ∨ x = 59 ∨ x = 75 ∨ x = 91 ∨ x = 107 ∨ x = 123 ∨ x = 139 ∨ x = 155 ∨ x = 171 ∨ x = 187 ∨ x = 203 ∨ x = 219 ∨ x = 235 ∨ x = 251 := by omega
    have hsz := h1.lt
    clear hk hz1 hx
    rcases hx' with rfl | rfl | rfl | rfl | rfl | rfl | rfl | rfl | rfl | rfl | rfl | rfl | rfl | rfl | rfl | rfl
    all_goals
      go_wp2
      go_ret
      refine ⟨_, _, rfl, ?_, h1.keep ?_, hb1.trans ?_⟩
      · first | exact fop_lt _ _ _ _ | exact neg_lt (by omega) | omega
      · exact below_drewN ((Below.refl _ _).alloc hsz _) _
      · exact below_drewN ((Below.refl _ _).alloc (Nat.le_of_lt hsz) _) _
  · have hk' : (x : Int) % 16 = 12 := by omega
    clear hk hz1
    go_wp2
    go_ret
    exact ⟨_, _, rfl, fop_lt _ _ _ _, h1.keep (below_drewN' _ _), hb1.trans (below_drewN' _ _)⟩
  · have hk' : (x : Int) % 16 = 13 := by omega
    clear hk hz1
    go_wp2
    go_ret
    exact ⟨_, _, rfl, fop_lt _ _ _ _, h1.keep (below_drewN' _ _), hb1.trans (below_drewN' _ _)⟩
  · have HK : Hid ((x : Int) % 16 = 14) := by show (x : Int) % 16 = 14; omega
    have hk' := HK.out
    clear hk hz1
    go_wp2_with fail
    clear f1 f2 f3 hk' hx
    go_loopw [9, 10] (fun b t W => ∃ (j i' : Nat) (bv : Int), j ≤ 8 ∧ t = .int .i64 (j : Nat) ∧ b = .int .u64 bv ∧ 0 ≤ bv ∧ bv < 18446744073709551616 ∧ Rd W P a n cap i' ∧ Below P w W) (fun _ t _ => 8 - (intOf t).toNat)
    case atStart => exact ⟨0, _, 0, by omega, rfl, rfl, by omega, by omega, h1, hb1⟩
    case round =>
      obtain ⟨j, i2, bv, hj, rfl, rfl, hb0, hb2, hR, hB⟩ := hrel
      by_cases hlt : j < 8
      · go_wp2_with fail
        refine (next_any _ _ _ _ _ _ hR).mono ?_
        rintro e w2 ⟨x2, i3, hx2, rfl, h2, hb3, hz2⟩
        clear hz2
        go_wp2
        go_roundw
        case rel => first | exact ⟨j + 1, _, _, by omega, by go_num, rfl, wrap_u64_nonneg _, wrap_u64_lt _, h2, hB.trans hb3⟩ | ((repeat apply Exists.intro); exact ⟨⟨j + 1, _, _, by omega, by go_num, rfl, wrap_u64_nonneg _, wrap_u64_lt _, h2, hB.trans hb3⟩, rfl⟩)
        case measure => simp [intOf]; omega
      · have hk' := HK.out
        have HB : Hid (0 ≤ bv ∧ bv < 18446744073709551616) := ⟨hb0, hb2⟩
        clear hb0 hb2
        go_wp2_with fail
        obtain ⟨nb, hnb, hlt2⟩ := or_u64 bv (IntKind.u64.wrap (IntKind.u64.wrap (wrap64 ((x : Int) / 16)) * 576460752303423488)) HB.out.1 HB.out.2 (wrap_u64_nonneg _) (wrap_u64_lt _)
        rw [hnb]
        refine (specFrom nb _ hlt2).mono ?_
        rintro e w2 ⟨y, rfl, hy, hyl, m, rfl⟩
        clear hnb hlt2 hy hk'
        go_wp2
        go_ret
        exact ⟨_, _, rfl, hyl, hR.keep (below_drewN' _ _), hB.trans (below_drewN' _ _)⟩
  · have HK : Hid ((x : Int) % 16 = 15) := by show (x : Int) % 16 = 15; omega
    have hk' := HK.out
    clear hk hz1
    go_wp2_with fail
    clear f1 f2 f3 hk' hx
    go_loopw [9, 10] (fun b t W => ∃ (j i' : Nat) (bv : Int), j ≤ 8 ∧ t = .int .i64 (j : Nat) ∧ b = .int .u64 bv ∧ 0 ≤ bv ∧ bv < 18446744073709551616 ∧ Rd W P a n cap i' ∧ Below P w W) (fun _ t _ => 8 - (intOf t).toNat)
    case atStart => exact ⟨0, _, 0, by omega, rfl, rfl, by omega, by omega, h1, hb1⟩
    case round =>
      obtain ⟨j, i2, bv, hj, rfl, rfl, hb0, hb2, hR, hB⟩ := hrel
      by_cases hlt : j < 8
      · go_wp2_with fail
        refine (next_any _ _ _ _ _ _ hR).mono ?_
        rintro e w2 ⟨x2, i3, hx2, rfl, h2, hb3, hz2⟩
        clear hz2
        go_wp2
        go_roundw
        case rel => first | exact ⟨j + 1, _, _, by omega, by go_num, rfl, wrap_u64_nonneg _, wrap_u64_lt _, h2, hB.trans hb3⟩ | ((repeat apply Exists.intro); exact ⟨⟨j + 1, _, _, by omega, by go_num, rfl, wrap_u64_nonneg _, wrap_u64_lt _, h2, hB.trans hb3⟩, rfl⟩)
        case measure => simp [intOf]; omega
      · have hk' := HK.out
        have HB : Hid (0 ≤ bv ∧ bv < 18446744073709551616) := ⟨hb0, hb2⟩
        clear hb0 hb2
        go_wp2_with fail
        obtain ⟨nb, hnb⟩ := Int.eq_ofNat_of_zero_le HB.out.1
        have hlt2 : nb < 18446744073709551616 := by have := HB.out.2; omega
        rw [hnb]
        clear hnb
        refine (specFrom nb _ hlt2).mono ?_
        rintro e w2 ⟨y, rfl, hy, hyl, m, rfl⟩
        clear hy hk'
        go_wp2
        go_ret
        exact ⟨_, _, rfl, hyl, hR.keep (below_drewN' _ _), hB.trans (below_drewN' _ _)⟩
end Go.Proofs.Ytcphabjekfihnaa
