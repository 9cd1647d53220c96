import Derived.Test.YtbelecjjkclifaaR
import Derived.Test.YtbelecjjkclifaaF
namespace Go.Proofs.Ytbelecjjkclifaa
open Go.RowKit Flt
attribute [local go_sem] alloc_drewN setCell_drewN

/-- A slice of bytes that came in. -/
structure Sl8 (w : World) (a : Option Addr) (n cap : Nat) : Prop where
  le : n ≤ cap
  nil : a = none → n = 0 ∧ cap = 0
  bytes : ∀ k, k < n → ∃ (B off : Nat) (x : Int), a = some ⟨B, off, none⟩ ∧ B < w.heap.size ∧ 0 ≤ x ∧ x < 256 ∧ w.cell? ⟨B, off + k, none⟩ = some (.int .u8 x)
theorem Sl8.keep {w w' : World} {a : Option Addr} {n cap : Nat} (h : Sl8 w a n cap) (hb : Below w.heap.size w w') : Sl8 w' a n cap :=
  ⟨h.le, h.nil, fun k hk => by
    obtain ⟨B, off, x, e, hB, h0, h1, hc⟩ := h.bytes k hk
    exact ⟨B, off, x, e, Nat.lt_of_lt_of_le hB hb.size, h0, h1, by rw [hb.cell (p := ⟨B, off + k, none⟩) hB]; exact hc⟩⟩

set_option maxHeartbeats 400000 in
theorem open_small (w : World) (x : Addr) (n cap : Nat) (hn : n ≤ 500) (hc : n ≤ cap) :
    Calls Try.prog 11 #[.slice (some x) n cap] w fun e w' => e = .returned (.pointer (some ⟨w.heap.size, 0, none⟩)) ∧ w' = w.alloc (.cells #[.slice (some x) n cap, .int .i64 0] 39) := by
  go_enter Try.func11, Try.ntmps11
  go_wp2
  go_ret
  exact ⟨rfl, rfl⟩
set_option maxHeartbeats 400000 in
theorem open_big (w : World) (x : Addr) (n cap : Nat) (hn : 500 < n) (hc : n ≤ cap) :
    Calls Try.prog 11 #[.slice (some x) n cap] w fun e w' => e = .returned (.pointer (some ⟨w.heap.size, 0, none⟩)) ∧ w' = w.alloc (.cells #[.slice (some x) 500 cap, .int .i64 0] 39) := by
  have hc2 : 500 ≤ cap := by omega
  go_enter Try.func11, Try.ntmps11
  go_wp2
  go_ret
  exact ⟨rfl, rfl⟩
set_option maxHeartbeats 400000 in
theorem open_nil (w : World) :
    Calls Try.prog 11 #[.slice none 0 0] w fun e w' => e = .returned (.pointer (some ⟨w.heap.size, 0, none⟩)) ∧ w' = w.alloc (.cells #[.slice none 0 0, .int .i64 0] 39) := by
  go_enter Try.func11, Try.ntmps11
  go_wp2
  go_ret
  exact ⟨rfl, rfl⟩

theorem rd_new (w : World) (a : Option Addr) (n m cap : Nat) (h : Sl8 w a n cap) (hm : m ≤ n) (hm' : m ≤ 500) :
    Rd (w.alloc (.cells #[.slice a m cap, .int .i64 0] 39)) w.heap.size a m cap 0 where
  lt := by simp
  cell0 := by simp
  cell1 := by simp
  fz := by simp
  hi := Nat.zero_le _
  small := hm'
  bytes := fun k hk => by
    obtain ⟨B, off, x, e, hB, h0, h1, hc⟩ := h.bytes k (by omega)
    exact ⟨B, off, x, e, hB, h0, h1, by rw [World.cell?_alloc_past (hn := hB)]; exact hc⟩

theorem open_any (w : World) (a : Option Addr) (n cap : Nat) (h : Sl8 w a n cap) :
    Calls Try.prog 11 #[.slice a n cap] w fun e w' => ∃ m, e = .returned (.pointer (some ⟨w.heap.size, 0, none⟩)) ∧ Rd w' w.heap.size a m cap 0 ∧ Below w.heap.size w w' := by
  cases a with
  | none =>
    obtain ⟨rfl, rfl⟩ := h.nil rfl
    refine (open_nil w).mono ?_
    rintro e w' ⟨rfl, rfl⟩
    exact ⟨0, rfl, rd_new w none 0 0 0 h (by omega) (by omega), (Below.refl _ _).alloc (Nat.le_refl _) _⟩
  | some x =>
    by_cases hn : n ≤ 500
    · refine (open_small w x n cap hn h.le).mono ?_
      rintro e w' ⟨rfl, rfl⟩
      exact ⟨n, rfl, rd_new w _ n n cap h (by omega) hn, (Below.refl _ _).alloc (Nat.le_refl _) _⟩
    · refine (open_big w x n cap (by omega) h.le).mono ?_
      rintro e w' ⟨rfl, rfl⟩
      exact ⟨500, rfl, rd_new w _ n 500 cap h (by omega) (by omega), (Below.refl _ _).alloc (Nat.le_refl _) _⟩

theorem run_fneg (b : Nat) (w : World) : (Op.unary .neg (.float .f64 b)).run Try.prog w = .ok (.float .f64 (Op.negFloat .f64 b)) w := rfl
theorem neg_lt {b : Nat} (h : b < 18446744073709551616) : Op.negFloat .f64 b < 18446744073709551616 := by
  obtain ⟨s, r, hr, rfl⟩ := split_word b h
  rw [neg_W s hr]; exact W_lt hr
theorem ofInt_lt (n : Int) : floatOfInt .f64 n < 18446744073709551616 := by
  have := floatOfInt_wf .f64 n
  simpa [Lit.wf] using this

theorem wrap_u64_lt (n : Int) : IntKind.u64.wrap n < 18446744073709551616 := by rw [IntKind.wrap_u64]; omega
theorem or_u64 (a b : Int) (h1 : 0 ≤ a) (h2 : a < 18446744073709551616) (h3 : 0 ≤ b) (h4 : b < 18446744073709551616) : ∃ n : Nat, bits .or .u64 a b = (n : Int) ∧ n < 18446744073709551616 := by
  refine ⟨_, u64_or a b h1 h2 h3 h4, ?_⟩
  have : a.toNat ||| b.toNat < 2 ^ 64 := Nat.or_lt_two_pow (by omega) (by omega)
  simpa using this
/-- What a draw of a float comes to. -/
def FEnd (P : Nat) (a : Option Addr) (n cap : Nat) (w : World) (e : Ending) (w' : World) : Prop :=
  ∃ y i', e = .returned (.float .f64 y) ∧ y < 18446744073709551616 ∧ Rd w' P a n cap i' ∧ Below P w w'

theorem draw_at (x : Nat) : x % 16 < 6 ∨ (6 ≤ x % 16 ∧ x % 16 < 9) ∨ x % 16 = 9 ∨ x % 16 = 10 ∨ x % 16 = 11 ∨ x % 16 = 12 ∨ x % 16 = 13 ∨ x % 16 = 14 ∨ x % 16 = 15 := by omega

end Go.Proofs.Ytbelecjjkclifaa
