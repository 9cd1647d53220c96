import Derived.Test.YtcphabjekfihnaaV03
import Derived.Deep.QuietTactic
import Derived.BigQuiet
import Derived.Deep.RegionWith
import Derived.Deep.RegionHeld3
namespace Go.Proofs.Ytcphabjekfihnaa
open Go.RowKit Flt
attribute [local go_sem] alloc_drewN setCell_drewN run_store_float

set_option maxRecDepth 100000 in
set_option maxHeartbeats 1000000 in
theorem spanEnd (w : World) (p : Spn) (h : -1000000 ≤ p.off + p.len ∧ p.off + p.len ≤ 1000000) :
    Calls Try.prog 170 #[p.agg] w fun e w' => e = .returned (.int .i64 (p.off + p.len)) ∧ Kept 0 0 w w' := by
  have hwr : IntKind.i64.wrap (p.off + p.len) = p.off + p.len := by rw [IntKind.wrap_i64]; omega
  go_enter Try.func170, Try.ntmps170
  go_wp2
  go_ret
  exact ⟨rfl, kept_alloc _ _ _ _⟩
set_option maxRecDepth 100000 in
set_option maxHeartbeats 1000000 in
theorem within (w : World) (p : Spn) (c : Int) (h1 : 1 ≤ p.len) (h2 : p.len ≤ 1000) (h3 : 0 ≤ c) (h4 : c ≤ 1000000) :
    Calls Try.prog 168 #[p.agg, .int .i64 c] w fun e w' => e = .returned (.bool (withB p.off p.len c)) ∧ Kept 0 0 w w' := by
  have hwr : IntKind.i64.wrap (c - p.len) = c - p.len := by rw [IntKind.wrap_i64]; omega
  by_cases u : 0 ≤ p.off
  · by_cases u2 : p.off ≤ c - p.len
    · rw [show withB p.off p.len c = true from decide_eq_true ⟨u, u2⟩]
      go_enter Try.func168, Try.ntmps168
      go_wp2
      go_ret
      exact ⟨rfl, kept_alloc _ _ _ _⟩
    · rw [show withB p.off p.len c = false from decide_eq_false (fun c => u2 c.2)]
      have u2' : decide (p.off ≤ c - p.len) = false := decide_eq_false u2
      go_enter Try.func168, Try.ntmps168
      go_wp2
      go_ret
      exact ⟨rfl, kept_alloc _ _ _ _⟩
  · rw [show withB p.off p.len c = false from decide_eq_false (fun c => u c.1)]
    have u' : decide (0 ≤ p.off) = false := decide_eq_false u
    go_enter Try.func168, Try.ntmps168
    go_wp2
    go_ret
    exact ⟨rfl, kept_alloc _ _ _ _⟩

/-- Cells of a row of bools. -/
structure BL (w : World) (g n : Nat) (b : Nat → Bool) : Prop where
  lt : g < w.heap.size
  at_ : ∀ k, k < n → w.cell? ⟨g, k, none⟩ = some (.bool (b k))
  free : ∀ o, w.frozen? ⟨g, o, none⟩ = false
theorem BL.keep {w w' : World} {g n l h : Nat} {b : Nat → Bool} (f : BL w g n b) (k : Kept l h w w') (hd : g < l ∨ h ≤ g ∨ h ≤ l) : BL w' g n b :=
  ⟨Nat.lt_of_lt_of_le f.lt k.size, fun i hi => by rw [k.cell (p := ⟨g, i, none⟩) f.lt (by show ¬ (l ≤ g ∧ g < h); omega)]; exact f.at_ i hi, fun o => by rw [k.frozen (p := ⟨g, o, none⟩) f.lt (by show ¬ (l ≤ g ∧ g < h); omega)]; exact f.free o⟩
theorem BL.congr {w : World} {g n : Nat} {b b' : Nat → Bool} (f : BL w g n b) (h : ∀ k, k < n → b k = b' k) : BL w g n b' := ⟨f.lt, fun k hk => by rw [← h k hk]; exact f.at_ k hk, f.free⟩
theorem BL.set {w : World} {g n : Nat} {b : Nat → Bool} (f : BL w g n b) (k : Nat) (hk : k < n) : BL (w.setCell ⟨g, k, none⟩ (.bool true)) g n (fun j => if j = k then true else b j) := by
  refine ⟨by simpa using f.lt, fun j hj => ?_, fun o => by simp [f.free o]⟩
  by_cases e : j = k
  · subst e
    rw [if_pos rfl]
    exact cell_eq _ _ _ _ _ (f.at_ j hj)
  · rw [if_neg e, cell_ne _ _ _ _ _ _ (.inr (fun c => e c.symm))]
    exact f.at_ j hj

set_option maxRecDepth 100000 in
set_option maxHeartbeats 2000000 in
theorem indexFalse (w : World) (g off n cap : Nat) (b : Nat → Bool) (hn : n ≤ 1000) (hc : ∀ k, k < n → w.cell? ⟨g, off + k, none⟩ = some (.bool (b k))) :
    Calls Try.prog 191 #[.slice (some ⟨g, off, none⟩) n cap, .bool false] w fun e w' => (∃ r : Int, e = .returned (.int .i64 r) ∧ decide (0 ≤ r) = !((List.range n).all b)) ∧ w = w' := by
  have HC : Hid _ := hc
  clear hc
  go_enter Try.func191, Try.ntmps191
  go_wp2_with fail
  go_loop [8] (fun i => ∃ k : Nat, k ≤ n ∧ i = .int .i64 k ∧ Hid ((List.range k).all b = true)) (fun i => n - (intOf i).toNat)
  case atStart => exact ⟨0, Nat.zero_le _, rfl, rfl⟩
  case round =>
    obtain ⟨k, hk, rfl, hA⟩ := hrel
    by_cases hlt : k < n
    · have c := HC.out k hlt
      cases t : b k
      · have R : Hid ((List.range n).all b = false) := range_bad hlt t
        rw [t] at c
        clear hA
        go_wp2
        go_ret
        exact ⟨⟨k, rfl, by rw [R.out]; simp⟩, rfl⟩
      · have R : Hid _ := range_snoc hA.out t
        rw [t] at c
        clear hA
        go_wp2
        go_round
        case rel => exact ⟨k + 1, by omega, by go_num, R⟩
        case measure => simp [intOf]; omega
    · have R : Hid ((List.range n).all b = true) := by
        have := hA.out
        rw [show k = n by omega] at this
        exact this
      clear hA
      go_wp2
      go_ret
      exact ⟨⟨-1, rfl, by rw [R.out]; decide⟩, rfl⟩
set_option maxRecDepth 100000 in
set_option maxHeartbeats 2000000 in
theorem containsFalse (w : World) (g off n cap : Nat) (b : Nat → Bool) (hn : n ≤ 1000) (hc : ∀ k, k < n → w.cell? ⟨g, off + k, none⟩ = some (.bool (b k))) :
    Calls Try.prog 171 #[.slice (some ⟨g, off, none⟩) n cap, .bool false] w fun e w' => e = .returned (.bool (!((List.range n).all b))) ∧ w = w' := by
  have HX : Hid _ := indexFalse w g off n cap b hn hc
  clear hc
  go_enter Try.func171, Try.ntmps171
  go_wp2_with fail
  refine Calls.mono HX.out ?_
  rintro e w2 ⟨⟨r, rfl, hr⟩, rfl⟩
  go_wp2
  go_ret
  exact ⟨by rw [← hr]; rfl, rfl⟩
end Go.Proofs.Ytcphabjekfihnaa

namespace Go.Proofs.Ytcphabjekfihnaa
open Go.RowKit Flt
attribute [local go_sem] alloc_drewN setCell_drewN run_store_float

abbrev pbox (p : Spn) : Obj := p.box
theorem spn_box (w : World) (p : Spn) : AtP (w.alloc p.box) w.heap.size 0 p := by
  refine ⟨?_, ?_⟩
  all_goals first | (go_simp; done) | (simp; done)
/-- Cells that have all been written. -/
def allW (b : Nat → Bool) (off len : Int) : Bool := (List.range len.toNat).all fun j => b (off.toNat + j)

set_option maxRecDepth 100000 in
set_option maxHeartbeats 4000000 in
theorem hold_in (w : World) (g n cap : Nat) (b : Nat → Bool) (hn : n ≤ 50000) (hcap : n ≤ cap) (f : BL w g n b) (o m : Nat) (h1 : 1 ≤ m) (h2 : m ≤ 1000) (h3 : o + m ≤ n) :
    Calls Try.prog 139 #[.slice (some ⟨g, 0, none⟩) n cap, (Spn.mk (o : Int) (m : Int)).agg] w fun e w' => e = .returned (.bool ((List.range m).all fun j => b (o + j))) ∧ Kept 0 0 w w' := by
  have hK := kept_alloc 0 0 w (Spn.mk (o : Int) (m : Int)).box
  have hB := spn_box w (Spn.mk (o : Int) (m : Int))
  have HF : Hid _ := f.keep hK (.inr (.inr (Nat.le_refl _)))
  have HK : Hid _ := hK
  have HB : Hid _ := hB
  have HBL : Hid (w.heap.size < (w.alloc (Spn.mk (o : Int) (m : Int)).box).heap.size) := by show _ < _; simp
  obtain ⟨q0, q1⟩ := hB
  rw [Nat.zero_add] at q1
  have HW : Hid (∀ w, Calls Try.prog 168 #[(Spn.mk (o : Int) (m : Int)).agg, .int .i64 (n : Int)] w fun e w' => e = .returned (.bool true) ∧ Kept 0 0 w w') := fun w => by
    have := within w (Spn.mk (o : Int) (m : Int)) (n : Int) (by show (1 : Int) ≤ (m : Int); omega) (by show (m : Int) ≤ 1000; omega) (by omega) (by omega)
    rw [show withB (o : Int) (m : Int) (n : Int) = true from decide_eq_true ⟨by omega, by omega⟩] at this
    exact this
  have HE : Hid (∀ w, Calls Try.prog 170 #[(Spn.mk (o : Int) (m : Int)).agg] w fun e w' => e = .returned (.int .i64 ((o : Int) + (m : Int))) ∧ Kept 0 0 w w') := fun w => spanEnd w (Spn.mk (o : Int) (m : Int)) (by show -1000000 ≤ (o : Int) + (m : Int) ∧ (o : Int) + (m : Int) ≤ 1000000; omega)
  have HC : Hid (∀ w' c', Kept 0 0 (w.alloc (Spn.mk (o : Int) (m : Int)).box) w' → Calls Try.prog 171 #[.slice (some ⟨g, o, none⟩) m c', .bool false] w' fun e w'' => e = .returned (.bool (!((List.range m).all fun j => b (o + j)))) ∧ w' = w'') := fun w' c' k => containsFalse w' g o m c' (fun j => b (o + j)) h2 (fun j hj => (HF.out.keep k (.inr (.inr (Nat.le_refl _)))).at_ (o + j) (by omega))
  clear f hK
  generalize ((List.range m).all fun j => b (o + j)) = z at HC ⊢
  go_enter Try.func139, Try.ntmps139
  go_wp2_with fail
  generalize w.alloc (Spn.mk (o : Int) (m : Int)).box = w1 at HF HK HB HBL HC q0 q1 ⊢
  go_region_with
    (first
      | (go_at_call 171; refine Calls.mono (HC.out _ _ kk3) ?_; rintro e w4 ⟨rfl, rfl⟩)
      | (go_at_call 170; refine Calls.mono (HE.out _) ?_; rintro e w3 ⟨rfl, k3⟩; have kk3 := Kept.trans kk2 k3; obtain ⟨t0, t1⟩ := AtP.keep HB.out HBL.out kk3 (.inr (.inr (Nat.le_refl _))); rw [Nat.zero_add] at t1)
      | (go_at_call 168; refine Calls.mono (HW.out _) ?_; rintro e w2 ⟨rfl, k2⟩; have kk2 := Kept.trans (kept_drewN 0 0 w1 1) k2; obtain ⟨s0, s1⟩ := AtP.keep HB.out HBL.out kk2 (.inr (.inr (Nat.le_refl _))); rw [Nat.zero_add] at s1))
  all_goals
    go_wp2
    go_ret
    exact ⟨by cases z <;> rfl, Kept.trans HK.out kk3⟩
end Go.Proofs.Ytcphabjekfihnaa
