import Derived.Test.YtjaklhpdkfmipaaR06
namespace Go.Proofs.Ytjaklhpdkfmipaa
open Go.RowKit Flt
attribute [local go_sem] alloc_drewN setCell_drewN run_store_float

end Go.Proofs.Ytjaklhpdkfmipaa

namespace Go.Proofs.Ytjaklhpdkfmipaa
open Go.RowKit Flt
attribute [local go_sem] alloc_drewN setCell_drewN run_store_float

theorem SP.keepR {w w' : World} {g n k l h : Nat} {gf cf : Nat → Nat} {xss : List (List Nat)} (f : SP w g n k gf cf xss) (q : Kept l h w w') (hd : h ≤ g) : SP w' g n k gf cf xss :=
  ⟨Nat.lt_of_lt_of_le f.lt q.size, fun o => by rw [q.frozen (p := ⟨g, o, none⟩) f.lt (by show ¬ (l ≤ g ∧ g < h); omega)]; exact f.free o,
    fun j hj => by rw [q.cell (p := ⟨g, j, none⟩) f.lt (by show ¬ (l ≤ g ∧ g < h); omega)]; exact f.cell j hj,
    fun j hj => by rw [q.cell (p := ⟨g, j, none⟩) f.lt (by show ¬ (l ≤ g ∧ g < h); omega)]; exact f.rest j hj,
    f.cap, fun j hj => (f.own j hj).keep q (.inr (.inl (by have := f.up j hj; omega))), f.up, f.inc⟩

/-- A list of lists in blocks of the call's own from lo on, or nil. -/
def OS (w : World) (lo : Nat) (a : Option Addr) (n cap : Nat) (zss : List (List Nat)) : Prop :=
  (a = none ∧ n = 0 ∧ cap = 0 ∧ zss = []) ∨ ∃ g gf cf, a = some ⟨g, 0, none⟩ ∧ lo ≤ g ∧ SP w g n n gf cf zss ∧ zss.length = n
theorem OS.ss {w : World} {lo : Nat} {a : Option Addr} {n cap : Nat} {zss : List (List Nat)} (h : OS w lo a n cap zss) : SS w a n zss := by
  rcases h with ⟨rfl, rfl, rfl, rfl⟩ | ⟨g, gf, cf, rfl, h1, h2, h3⟩
  · exact ⟨rfl, .inl rfl⟩
  · exact h2.ss h3
theorem OS.keep {w w' : World} {lo l h : Nat} {a : Option Addr} {n cap : Nat} {zss : List (List Nat)} (f : OS w lo a n cap zss) (q : Kept l h w w') (hd : h ≤ lo) : OS w' lo a n cap zss := by
  rcases f with f | ⟨g, gf, cf, e, h1, h2, h3⟩
  · exact .inl f
  · exact .inr ⟨g, gf, cf, e, h1, h2.keepR q (by omega), h3⟩
/-- The same, marked from k on. -/
def OM (w : World) (a : Option Addr) (n cap : Nat) (zss : List (List Nat)) (k : Int) : Prop :=
  (a = none ∧ n = 0 ∧ cap = 0 ∧ zss = []) ∨ ∃ (g : Nat) (gf cf : Nat → Nat), a = some ⟨g, 0, none⟩ ∧ zss.length = n ∧ (∀ i, i < n → w.cell? ⟨g, i, none⟩ = some (.slice (some ⟨gf i, 0, none⟩) (zss.getD i []).length (cf i))) ∧ ∀ i, i < n → FO w (gf i) (zss.getD i []).length (mk k zss i)

set_option maxRecDepth 100000 in
set_option maxHeartbeats 1000000 in
theorem markSS_zero (w : World) (a : Option Addr) (cap : Nat) (k : Int) :
    Calls Try.prog 31 #[.slice a 0 cap, .int .i64 k] w fun e w' => e = .returned (.int .i64 k) ∧ w' = w := by
  go_enter Try.func31, Try.ntmps31
  go_wp2_with fail
  refine wp_loop_rounds 1 ?_
  rw [rounds_succ]
  go_wp2
  go_ret
  exact ⟨rfl, rfl⟩
set_option maxRecDepth 100000 in
set_option maxHeartbeats 1000000 in
theorem heldSS_zero (w : World) (a : Option Addr) (cap : Nat) (k : Int) :
    Calls Try.prog 32 #[.slice a 0 cap, .int .i64 k] w fun e w' => e = .returned (.int .i64 k) ∧ w' = w := by
  go_enter Try.func32, Try.ntmps32
  go_wp2_with fail
  refine wp_loop_rounds 1 ?_
  rw [rounds_succ]
  go_wp2
  go_ret
  exact ⟨rfl, rfl⟩
theorem markOS (w : World) (lo : Nat) (a : Option Addr) (n cap : Nat) (zss : List (List Nat)) (k : Int) (f : OS w lo a n cap zss) (h0 : 0 ≤ k) (h1 : k + total zss ≤ 1099511627776) (hn : n ≤ 1099511627776) :
    Calls Try.prog 31 #[.slice a n cap, .int .i64 k] w fun e w' => e = .returned (.int .i64 (k + total zss)) ∧ OM w' a n cap zss k ∧ Kept lo w.heap.size w w' := by
  rcases f with ⟨rfl, rfl, rfl, rfl⟩ | ⟨g, gf, cf, rfl, g1, g2, g3⟩
  · exact (markSS_zero w none 0 k).mono fun e w' h => ⟨by rw [h.1]; simp [total], .inl ⟨rfl, rfl, rfl, rfl⟩, by rw [h.2]; exact Kept.refl _ _ _⟩
  · exact (markSS w g n cap gf cf zss k g2 g3 h0 h1 hn w.heap.size (fun i hi => (g2.own i hi).lt)).mono fun e w' h => ⟨h.1, .inr ⟨g, gf, cf, rfl, g3, fun i hi => by rw [h.2.2.cell (p := ⟨g, i, none⟩) g2.lt (by show ¬ (g + 1 ≤ g ∧ _); omega)]; exact g2.cell i hi, h.2.1⟩, h.2.2.mono fun b hb c => ⟨by omega, hb⟩⟩
theorem heldOM (w : World) (a : Option Addr) (n cap : Nat) (zss : List (List Nat)) (k : Int) (f : OM w a n cap zss k) (h0 : 0 ≤ k) (h1 : k + total zss ≤ 1099511627776) (hn : n ≤ 1099511627776) :
    Calls Try.prog 32 #[.slice a n cap, .int .i64 k] w fun e w' => e = .returned (.int .i64 (k + total zss)) ∧ w = w' := by
  rcases f with ⟨rfl, rfl, rfl, rfl⟩ | ⟨g, gf, cf, rfl, g1, g2, g3⟩
  · exact (heldSS_zero w none 0 k).mono fun e w' h => ⟨by rw [h.1]; simp [total], h.2.symm⟩
  · exact heldSS w g n cap gf cf zss k g2 g3 g1 h0 h1 hn

/-- What Eval answers: so many lists N, the code Cd, list j the same as L j. -/
def EvS (ins : List Int) (vs : List Vl) (outs : List Int) (xss : List (List Nat)) (n2 n3 N : Nat) (Cd : Int) (L : Nat → List Nat) : Prop :=
  (okG ins vs outs = false ∧ N = 0 ∧ Cd = 1) ∨ (okG ins vs outs = true ∧ inB ins xss = false ∧ N = 0 ∧ Cd = 4) ∨ (okG ins vs outs = true ∧ inB ins xss = true ∧ N = n3 ∧ Cd = 0 ∧ ∀ j, L j = (valsTo xss vs n2).getD (outs.getD j 0).toNat [])
theorem EvS.some (ins : List Int) (vs : List Vl) (outs : List Int) (xss : List (List Nat)) (n2 n3 : Nat) : ∃ N Cd L, EvS ins vs outs xss n2 n3 N Cd L := by
  cases h1 : okG ins vs outs
  · exact ⟨0, 1, fun _ => [], .inl ⟨h1, rfl, rfl⟩⟩
  · cases h2 : inB ins xss
    · exact ⟨0, 4, fun _ => [], .inr (.inl ⟨h1, h2, rfl, rfl⟩)⟩
    · exact ⟨n3, 0, fun j => (valsTo xss vs n2).getD (outs.getD j 0).toNat [], .inr (.inr ⟨h1, h2, rfl, rfl, fun _ => rfl⟩)⟩
theorem total_cap {c : Nat} : ∀ {zss : List (List Nat)}, (∀ j, j < zss.length → (zss.getD j []).length ≤ c) → total zss ≤ c * zss.length
  | [], _ => by simp [total]
  | xs :: r, h => by
    have h0 := h 0 (by simp)
    have h1 := total_cap (zss := r) (fun j hj => h (j + 1) (by simp; omega))
    simp only [total, List.length_cons, Nat.mul_add, Nat.mul_one]
    have : (xs :: r).getD 0 [] = xs := rfl
    rw [this] at h0
    omega
end Go.Proofs.Ytjaklhpdkfmipaa
