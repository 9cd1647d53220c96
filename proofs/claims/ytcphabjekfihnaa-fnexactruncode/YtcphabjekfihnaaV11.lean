import Derived.Test.YtcphabjekfihnaaV09
import Derived.Test.YtcphabjekfihnaaV10
import Derived.Test.YtcphabjekfihnaaV05
namespace Go.Proofs.Ytcphabjekfihnaa
open Go.RowKit Flt
attribute [local go_sem] alloc_drewN setCell_drewN run_store_float

set_option maxRecDepth 100000 in
set_option maxHeartbeats 2000000 in
theorem valOf (w : World) (s : Ste) :
    Calls Try.prog 167 #[s.agg] w fun e w' => e = .returned (vlOf s).agg ∧ Kept 0 0 w w' := by
  go_enter Try.func167, Try.ntmps167
  go_wp2
  refine bodyPost_ret (v := (vlOf s).agg) (by simp [results, Try.results167, go_sem, vlOf]) rfl ⟨rfl, ?_⟩
  exact (kept_alloc 0 0 w _).trans (kept_alloc 0 0 _ _)

/-- The step of OpInput as a value behind its interface. -/
abbrev inAgg (s : Ste) : Value := .agg #[.int .i64 s.dst, .int .i64 s.len, .int .i64 s.a]
abbrev kAgg (s : Ste) (G n : Nat) : Value := .agg #[.int .i64 s.dst, .int .i64 s.len, .int .i64 s.op, .int .i64 s.len, .int .i64 s.a, .int .i64 s.b, .int .i64 s.c, .float .f64 s.k, .slice (some ⟨G, 0, none⟩) n 3]
set_option maxRecDepth 100000 in
set_option maxHeartbeats 2000000 in
theorem opStep_in (w : World) (s : Ste) (h : s.op = 0) :
    Calls Try.prog 138 #[s.agg] w fun e w' => e = .returned (.iface 188 (inAgg s)) ∧ Kept 0 0 w w' := by
  have t : (s.op == 0) = true := beq_iff_eq.2 h
  go_enter Try.func138, Try.ntmps138
  go_wp2
  go_ret
  exact ⟨rfl, (kept_alloc 0 0 w _).trans (kept_alloc 0 0 _ _)⟩

/-- A row of spans in a block of its own. -/
structure SB (w : World) (G n : Nat) (ps : List Spn) : Prop where
  lt : G < w.heap.size
  at_ : ∀ k, k < n → AtP w G (k * 2) (ps.getD k Spn.zero)
theorem SB.keep {w w' : World} {G n l h : Nat} {ps : List Spn} (f : SB w G n ps) (k : Kept l h w w') (hd : G < l ∨ h ≤ G ∨ h ≤ l) : SB w' G n ps :=
  ⟨Nat.lt_of_lt_of_le f.lt k.size, fun i hi => (f.at_ i hi).keep f.lt k hd⟩
abbrev sbox6 (s : Ste) : Obj := .cells #[.int .i64 s.a, .int .i64 s.n, .int .i64 s.b, .int .i64 s.len, .int .i64 s.c, .int .i64 s.len] 143
theorem sb_start (w : World) (s : Ste) : SB (w.alloc (sbox6 s)) w.heap.size (cnt s.op) (spansOf s) := by
  refine ⟨by simp, fun k hk => ?_⟩
  have hc := cnt_le s.op
  have e : (spansOf s).getD k Spn.zero = [⟨s.a, s.n⟩, ⟨s.b, s.len⟩, ⟨s.c, s.len⟩].getD k Spn.zero := by
    unfold spansOf
    rw [List.getD_eq_getElem?_getD, List.getElem?_take_of_lt hk, ← List.getD_eq_getElem?_getD]
  rw [e]
  rcases (by omega : k = 0 ∨ k = 1 ∨ k = 2) with rfl | rfl | rfl
  all_goals
    refine ⟨?_, ?_⟩
    all_goals first | (go_simp; done) | (simp; done)

set_option maxRecDepth 100000 in
set_option maxHeartbeats 4000000 in
theorem opStep_k (w : World) (s : Ste) (h : s.op ≠ 0) :
    Calls Try.prog 138 #[s.agg] w fun e w' => ∃ G, e = .returned (.iface 190 (kAgg s G (cnt s.op))) ∧ SB w' G (cnt s.op) (spansOf s) ∧ w.heap.size ≤ G ∧ Kept 0 0 w w' := by
  have t : (s.op == 0) = false := beq_eq_false_iff_ne.2 h
  have hc := cnt_le s.op
  have h1 : (w.alloc s.box).heap.size = w.heap.size + 1 := by simp
  have h2 : ((w.alloc s.box).alloc (Spn.mk s.dst s.len).box).heap.size = w.heap.size + 1 + 1 := by simp
  have ka := (kept_alloc 0 0 (w.alloc s.box) (Spn.mk s.dst s.len).box).trans (kept_alloc 0 0 _ (sbox6 s))
  have HK : Hid _ := (kept_alloc 0 0 w s.box).trans ka
  have HB : Hid _ := (ste_box w s).keep (by simp) ka (.inr (.inr (Nat.le_refl _)))
  have hP := (spn_box (w.alloc s.box) (Spn.mk s.dst s.len)).keep (by simp) (kept_alloc 0 0 _ (sbox6 s)) (.inr (.inr (Nat.le_refl _)))
  rw [h1] at hP
  have HP : Hid _ := hP
  have hS := sb_start ((w.alloc s.box).alloc (Spn.mk s.dst s.len).box) s
  rw [h2] at hS
  have HS : Hid _ := hS
  have HC : Hid (∀ w, Calls Try.prog 84 #[.int .i64 s.op] w fun e w' => e = .returned (.int .i64 (cnt s.op : Nat)) ∧ w' = w) := fun w => opCount s.op w
  have HV : Hid (∀ w, Calls Try.prog 167 #[s.agg] w fun e w' => e = .returned (vlOf s).agg ∧ Kept 0 0 w w') := fun w => valOf w s
  clear ka h1 h2 hP hS
  go_enter Try.func138, Try.ntmps138
  go_wp2_with fail
  have i1 : (0 : Int) ≤ ((cnt s.op : Nat) : Int) := by omega
  have i2 : ((cnt s.op : Nat) : Int) ≤ (3 : Int) := by omega
  obtain ⟨d0, d1, d2, d3, d4, d5, d6, d7⟩ := HB.out
  obtain ⟨q0, q1⟩ := HP.out
  simp only [Nat.zero_add] at d1 d2 d3 d4 d5 d6 d7 q1
  have HZ : Hid (w.heap.size + 1 + 1 < (((w.alloc s.box).alloc (Spn.mk s.dst s.len).box).alloc (sbox6 s)).heap.size) := HS.out.lt
  generalize ((w.alloc s.box).alloc (Spn.mk s.dst s.len).box).alloc (sbox6 s) = w1 at HK HB HP HS HZ d0 d1 d2 d3 d4 d5 d6 d7 q0 q1 ⊢
  go_region_held3 (fun w' => w'.cell? ⟨w.heap.size, 0, none⟩ = some (.int .i64 s.op) ∧ w'.cell? ⟨w.heap.size, 1, none⟩ = some (.int .i64 s.len) ∧ w'.cell? ⟨w.heap.size, 2, none⟩ = some (.int .i64 s.n) ∧ w'.cell? ⟨w.heap.size, 3, none⟩ = some (.int .i64 s.dst) ∧ w'.cell? ⟨w.heap.size, 4, none⟩ = some (.int .i64 s.a) ∧ w'.cell? ⟨w.heap.size, 5, none⟩ = some (.int .i64 s.b) ∧ w'.cell? ⟨w.heap.size, 6, none⟩ = some (.int .i64 s.c) ∧ w'.cell? ⟨w.heap.size, 7, none⟩ = some (.float .f64 s.k) ∧ w'.cell? ⟨w.heap.size + 1, 0, none⟩ = some (.int .i64 s.dst) ∧ w'.cell? ⟨w.heap.size + 1, 1, none⟩ = some (.int .i64 s.len)) (go_keep)
    (first
      | (go_at_call 84; refine Calls.mono (HC.out _) ?_; rintro e w3 ⟨rfl, rfl⟩)
      | (go_at_call 167; refine Calls.mono (HV.out _) ?_; rintro e w2 ⟨rfl, k2⟩; have kk2 := Kept.trans (kept_drewN 0 0 w1 1) k2; obtain ⟨e0, e1, e2, e3, e4, e5, e6, e7⟩ := AtT.keep HB.out (by have := HZ.out; omega) kk2 (.inr (.inr (Nat.le_refl _))); obtain ⟨r0, r1⟩ := AtP.keep HP.out (by have := HZ.out; omega) kk2 (.inr (.inr (Nat.le_refl _))); simp only [Nat.zero_add] at e1 e2 e3 e4 e5 e6 e7 r1))
  all_goals
    go_wp2
    go_ret
    exact ⟨w.heap.size + 1 + 1, rfl, HS.out.keep kk2 (.inr (.inr (Nat.le_refl _))), by omega, Kept.trans HK.out kk2⟩
end Go.Proofs.Ytcphabjekfihnaa
