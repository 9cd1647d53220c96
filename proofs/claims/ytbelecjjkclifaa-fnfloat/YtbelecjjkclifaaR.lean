import Derived.Test.YtbelecjjkclifaaK
import Derived.Deep.QuietTactic
import Derived.BigQuiet
namespace Go.Proofs.Ytbelecjjkclifaa
open Go.RowKit

/-- The reader of a draw: its two cells, and the bytes that it reads. -/
structure Rd (w : World) (P : Nat) (a : Option Addr) (n cap : Nat) (i : Nat) : Prop where
  lt : P < w.heap.size
  cell0 : w.cell? ⟨P, 0, none⟩ = some (.slice a n cap)
  cell1 : w.cell? ⟨P, 1, none⟩ = some (.int .i64 (i : Int))
  fz : w.frozen? ⟨P, 1, none⟩ = false
  hi : i ≤ n
  small : n ≤ 500
  bytes : ∀ k, k < n → ∃ (B off : Nat) (x : Int), a = some ⟨B, off, none⟩ ∧ B < P ∧ 0 ≤ x ∧ x < 256 ∧ w.cell? ⟨B, off + k, none⟩ = some (.int .u8 x)

theorem Rd.keep {w w' : World} {P : Nat} {a : Option Addr} {n cap i : Nat} (h : Rd w P a n cap i) (hb : Below (P + 1) w w') : Rd w' P a n cap i where
  lt := Nat.lt_of_lt_of_le h.lt hb.size
  cell0 := by rw [hb.cell (p := ⟨P, 0, none⟩) (Nat.lt_succ_self P)]; exact h.cell0
  cell1 := by rw [hb.cell (p := ⟨P, 1, none⟩) (Nat.lt_succ_self P)]; exact h.cell1
  fz := by rw [hb.frozen (p := ⟨P, 1, none⟩) (Nat.lt_succ_self P)]; exact h.fz
  hi := h.hi
  small := h.small
  bytes := fun k hk => by
    obtain ⟨B, off, x, e, hB, h0, h1, hc⟩ := h.bytes k hk
    exact ⟨B, off, x, e, hB, h0, h1, by rw [hb.cell (p := ⟨B, off + k, none⟩) (Nat.lt_succ_of_lt hB)]; exact hc⟩

theorem below_drewN' {B : Nat} (w : World) (m : Nat) : Below B w (w.drewN m) := ⟨rfl, rfl, rfl, Nat.le_refl _, fun _ _ => rfl⟩

theorem Rd.step {w : World} {P : Nat} {a : Option Addr} {n cap i : Nat} (h : Rd w P a n cap i) (hi : i < n) (m : Nat) :
    Rd ((w.setCell ⟨P, 1, none⟩ (.int .i64 ((i : Int) + 1))).drewN m) P a n cap (i + 1) where
  lt := by simpa using h.lt
  cell0 := by
    rw [World.cell?_drewN, World.cell?_setCell_other (h := by simp)]; exact h.cell0
  cell1 := by
    rw [World.cell?_drewN, World.cell?_setCell_same (h := h.cell1)]; rfl
  fz := by rw [World.frozen?_drewN, World.frozen?_setCell]; exact h.fz
  hi := hi
  small := h.small
  bytes := fun k hk => by
    obtain ⟨B, off, x, e, hB, h0, h1, hc⟩ := h.bytes k hk
    refine ⟨B, off, x, e, hB, h0, h1, ?_⟩
    rw [World.cell?_drewN, World.cell?_setCell_other (h := by intro c; injection c with c1; omega)]; exact hc

set_option maxHeartbeats 400000 in
theorem next_end (w : World) (P : Nat) (a : Option Addr) (n cap i : Nat) (h : Rd w P a n cap i) (hi : n ≤ i) :
    Calls Try.prog 16 #[.pointer (some ⟨P, 0, none⟩)] w fun e w' => e = .returned (.int .i64 0) ∧ ∃ m, w' = w.drewN m := by
  have h0 := h.cell0
  have h1 := h.cell1
  clear h
  go_enter Try.func16, Try.ntmps16
  go_wp2
  go_quiet (fail)
  go_wp2
  go_ret
  exact ⟨rfl, _, rfl⟩

set_option maxHeartbeats 400000 in
theorem next_more (w : World) (P : Nat) (a : Option Addr) (n cap i : Nat) (h : Rd w P a n cap i) (hi : i < n) :
    Calls Try.prog 16 #[.pointer (some ⟨P, 0, none⟩)] w fun e w' => ∃ x : Int, 0 ≤ x ∧ x < 256 ∧ e = .returned (.int .i64 x) ∧ ∃ m, w' = (w.setCell ⟨P, 1, none⟩ (.int .i64 (i + 1))).drewN m := by
  have h0 := h.cell0
  have h1 := h.cell1
  have h2 := h.fz
  have hn := h.small
  obtain ⟨B, off, x, rfl, hB, hx0, hx1, hx⟩ := h.bytes i hi
  clear h hB
  go_enter Try.func16, Try.ntmps16
  go_wp2
  go_quiet (fail)
  go_wp2
  go_quiet (fail)
  go_wp2
  go_ret
  exact ⟨x, hx0, hx1, rfl, _, rfl⟩

theorem next_any (w : World) (P : Nat) (a : Option Addr) (n cap i : Nat) (h : Rd w P a n cap i) :
    Calls Try.prog 16 #[.pointer (some ⟨P, 0, none⟩)] w fun e w' => ∃ (x i' : Nat), x < 256 ∧ e = .returned (.int .i64 (x : Int)) ∧ Rd w' P a n cap i' ∧ Below P w w' ∧ w'.heap.size = w.heap.size := by
  by_cases hi : i < n
  · refine (next_more w P a n cap i h hi).mono ?_
    rintro e w' ⟨x, h0, h1, rfl, m, rfl⟩
    obtain ⟨x, rfl⟩ := Int.eq_ofNat_of_zero_le h0
    exact ⟨x, i + 1, by omega, rfl, h.step hi m, below_drewN ((Below.refl P w).setCell (p := ⟨P, 1, none⟩) (Nat.le_refl _) _) m, by simp⟩
  · refine (next_end w P a n cap i h (by omega)).mono ?_
    rintro e w' ⟨rfl, m, rfl⟩
    exact ⟨0, i, by omega, rfl, h.keep (below_drewN' w m), below_drewN' w m, rfl⟩
end Go.Proofs.Ytbelecjjkclifaa
