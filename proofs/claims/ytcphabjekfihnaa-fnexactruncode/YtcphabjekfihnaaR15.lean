import Derived.Test.YtcphabjekfihnaaR08
import Derived.Test.YtcphabjekfihnaaR11
import Derived.Test.YtcphabjekfihnaaR14
namespace Go.Proofs.Ytcphabjekfihnaa
open Go.RowKit Flt
attribute [local go_sem] alloc_drewN setCell_drewN run_store_float

/-- What RunCode answers: so many lists N, the steps St, the code Cd, list j the same as L j. -/
def RvS (ins : List Int) (ss : List Ste) (os : List Spn) (pk : Int) (xss : List (List Nat)) (n2 n3 N : Nat) (St Cd : Int) (L : Nat → List Nat) : Prop :=
  (verM ins ss os pk = false ∧ N = 0 ∧ St = 0 ∧ Cd = 1) ∨ (verM ins ss os pk = true ∧ inB ins xss = false ∧ N = 0 ∧ St = 0 ∧ Cd = 4) ∨ (verM ins ss os pk = true ∧ inB ins xss = true ∧ N = n3 ∧ St = n2 ∧ Cd = 0 ∧ ∀ j, L j = (runM xss ss os).getD j [])
theorem RvS.some (ins : List Int) (ss : List Ste) (os : List Spn) (pk : Int) (xss : List (List Nat)) (n2 n3 : Nat) : ∃ N St Cd L, RvS ins ss os pk xss n2 n3 N St Cd L := by
  cases h1 : verM ins ss os pk
  · exact ⟨0, 0, 1, fun _ => [], .inl ⟨h1, rfl, rfl, rfl⟩⟩
  · cases h2 : inB ins xss
    · exact ⟨0, 0, 4, fun _ => [], .inr (.inl ⟨h1, h2, rfl, rfl, rfl⟩)⟩
    · exact ⟨n3, n2, 0, fun j => (runM xss ss os).getD j [], .inr (.inr ⟨h1, h2, rfl, rfl, rfl, fun _ => rfl⟩)⟩
theorem run_len {xss : List (List Nat)} {ss : List Ste} {os : List Spn} {pk : Int} (h : os.all (outB ss pk) = true) {j : Nat} (hj : j < os.length) : ((runM xss ss os).getD j []).length ≤ 1000 := by
  have e : (runM xss ss os).getD j [] = readM ss (resTo xss ss ss.length) ss.length (os[j]).off (os[j]).len := by
    unfold runM
    rw [List.getD_eq_getElem?_getD, List.getElem?_map, List.getElem?_eq_getElem hj]; rfl
  have hp := List.all_eq_true.1 h _ (List.getElem_mem hj)
  unfold outB at hp
  rw [Bool.and_eq_true] at hp
  have h1 := of_decide_eq_true hp.1
  rw [e, readM_len]
  omega
theorem implRun (w : World) (a1 a2 a3 b : Option Addr) (n1 c1 n2 c2 n3 c3 m cb : Nat) (pk : Int) (ins : List Int) (ss : List Ste) (os : List Spn) (xss : List (List Nat)) (f : CS w a1 n1 a2 n2 a3 n3 ins ss os) (s : SS w b m xss) (hw : Words xss) (hn : n1 ≤ 1048576) (N : Nat) (St Cd : Int) (L : Nat → List Nat) (h : RvS ins ss os pk xss n2 n3 N St Cd L) :
    Calls Try.prog 61 #[cagg a1 n1 c1 a2 n2 c2 a3 n3 c3 pk, .slice b m cb] w fun e w' => ∃ a cap zss, e = .returned (.tuple #[.slice a N cap, .int .i64 St, .int .i64 Cd]) ∧ OS w' w.heap.size a N cap zss ∧ (∀ j, j < N → same (zss.getD j []) (L j)) ∧ (N ≤ 50 ∧ total zss ≤ 1000000 ∧ ∀ j, j < N → (zss.getD j []).length ≤ 1000) ∧ Kept 0 0 w w' := by
  rcases h with ⟨h1, rfl, rfl, rfl⟩ | ⟨h1, h2, rfl, rfl, rfl⟩ | ⟨h1, h2, rfl, rfl, rfl, h3⟩
  · exact (implRun_bad w a1 a2 a3 b n1 c1 n2 c2 n3 c3 m cb pk ins ss os f h1).mono fun e w' h => ⟨none, 0, [], h.1, .inl ⟨rfl, rfl, rfl, rfl⟩, fun j hj => absurd hj (Nat.not_lt_zero _), ⟨by omega, by simp [total], fun j hj => absurd hj (Nat.not_lt_zero _)⟩, h.2⟩
  · exact (implRun_shape w a1 a2 a3 b n1 c1 n2 c2 n3 c3 m cb pk ins ss os xss f s h1 h2 hn).mono fun e w' h => ⟨none, 0, [], h.1, .inl ⟨rfl, rfl, rfl, rfl⟩, fun j hj => absurd hj (Nat.not_lt_zero _), ⟨by omega, by simp [total], fun j hj => absurd hj (Nat.not_lt_zero _)⟩, h.2⟩
  · refine (implRun_ok w a1 a2 a3 b n1 c1 n2 c2 N c3 m cb pk ins ss os xss f s hw h1 h2).mono ?_
    rintro e w' ⟨G, gf, cf, zss, r1, r2, r3, r4, r5, r6⟩
    obtain ⟨⟨_, _, l3, _, _⟩, _, hou⟩ := ver_lims h1
    rw [f.o.len] at l3
    have hb : ∀ j, j < N → (zss.getD j []).length ≤ 1000 := fun j hj => by
      have s1 := same_len (r5 j hj)
      have s2 := run_len (xss := xss) hou (j := j) (by rw [f.o.len]; exact hj)
      omega
    have ht := total_cap (zss := zss) (c := 1000) (fun j hj => hb j (by omega))
    exact ⟨_, N, zss, r1, .inr ⟨G, gf, cf, rfl, r2, r3, r4⟩, fun j hj => by rw [h3]; exact r5 j hj, ⟨l3, by rw [r4] at ht; omega, hb⟩, r6⟩
theorem specRun (w : World) (a1 a2 a3 b : Option Addr) (n1 c1 n2 c2 n3 c3 m cb : Nat) (pk : Int) (ins : List Int) (ss : List Ste) (os : List Spn) (xss : List (List Nat)) (f : CS w a1 n1 a2 n2 a3 n3 ins ss os) (s : SS w b m xss) (hw : Words xss) (hn : n1 ≤ 1048576) (N : Nat) (St Cd : Int) (L : Nat → List Nat) (h : RvS ins ss os pk xss n2 n3 N St Cd L) :
    Calls Try.prog 60 #[cagg a1 n1 c1 a2 n2 c2 a3 n3 c3 pk, .slice b m cb] w fun e w' => ∃ a cap zss, e = .returned (.tuple #[.slice a N cap, .int .i64 St, .int .i64 Cd]) ∧ SS w' a N zss ∧ (∀ j, j < N → same (zss.getD j []) (L j)) ∧ Kept 0 0 w w' := by
  rcases h with ⟨h1, rfl, rfl, rfl⟩ | ⟨h1, h2, rfl, rfl, rfl⟩ | ⟨h1, h2, rfl, rfl, rfl, h3⟩
  · exact (specRun_bad w a1 a2 a3 b n1 c1 n2 c2 n3 c3 m cb pk ins ss os f h1).mono fun e w' h => ⟨none, 0, [], h.1, ⟨rfl, .inl rfl⟩, fun j hj => absurd hj (Nat.not_lt_zero _), h.2⟩
  · exact (specRun_shape w a1 a2 a3 b n1 c1 n2 c2 n3 c3 m cb pk ins ss os xss f s h1 h2 hn).mono fun e w' h => ⟨none, 0, [], h.1, ⟨rfl, .inl rfl⟩, fun j hj => absurd hj (Nat.not_lt_zero _), h.2⟩
  · refine (specRun_ok w a1 a2 a3 b n1 c1 n2 c2 N c3 m cb pk ins ss os xss f s hw h1 h2 hn).mono ?_
    rintro e w' ⟨a, cap, zss, r1, r2, r3, r4⟩
    exact ⟨a, cap, zss, r1, r2, fun j hj => by rw [h3]; exact r3 j hj, r4⟩
end Go.Proofs.Ytcphabjekfihnaa
