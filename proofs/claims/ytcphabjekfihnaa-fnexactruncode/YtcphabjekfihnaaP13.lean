import Derived.Test.YtcphabjekfihnaaP08
import Derived.Deep.QuietTactic
import Derived.BigQuiet
namespace Go.Proofs.Ytcphabjekfihnaa
open Go.RowKit Flt
attribute [local go_sem] alloc_drewN setCell_drewN run_store_float

/-- spec.l1operands: three for what is no operation but 0 and 1 .. are not asked. -/
def ops1 (op : Int) : Nat := if op = 0 ∨ op = 1 then 0 else if op = 2 ∨ op = 3 ∨ op = 4 ∨ op = 5 ∨ op = 7 then 2 else if op = 8 then 3 else 1
set_option maxRecDepth 100000 in
set_option maxHeartbeats 1000000 in
theorem l1operands (op : Int) (w : World) (h0 : 0 ≤ op) (h1 : op ≤ 13) : Calls Try.prog 79 #[.int .i64 op] w fun e w' => e = .returned (.int .i64 (ops1 op : Nat)) ∧ w' = w := by
  have h : op = 0 ∨ op = 1 ∨ op = 2 ∨ op = 3 ∨ op = 4 ∨ op = 5 ∨ op = 6 ∨ op = 7 ∨ op = 8 ∨ op = 9 ∨ op = 10 ∨ op = 11 ∨ op = 12 ∨ op = 13 := by omega
  clear h0 h1
  rcases h with rfl | rfl | rfl | rfl | rfl | rfl | rfl | rfl | rfl | rfl | rfl | rfl | rfl | rfl
  all_goals
    go_enter Try.func79, Try.ntmps79
    go_wp2
    go_ret
    exact ⟨rfl, rfl⟩
def each1 (op : Int) : Bool := decide ((2 ≤ op ∧ op ≤ 8) ∨ op = 13)
set_option maxRecDepth 100000 in
set_option maxHeartbeats 1000000 in
theorem l1each (op : Int) (w : World) (h0 : 0 ≤ op) (h1 : op ≤ 13) : Calls Try.prog 78 #[.int .i64 op] w fun e w' => e = .returned (.bool (each1 op)) ∧ w' = w := by
  have h : op = 0 ∨ op = 1 ∨ op = 2 ∨ op = 3 ∨ op = 4 ∨ op = 5 ∨ op = 6 ∨ op = 7 ∨ op = 8 ∨ op = 9 ∨ op = 10 ∨ op = 11 ∨ op = 12 ∨ op = 13 := by omega
  clear h0 h1
  rcases h with rfl | rfl | rfl | rfl | rfl | rfl | rfl | rfl | rfl | rfl | rfl | rfl | rfl | rfl
  all_goals
    go_enter Try.func78, Try.ntmps78
    go_wp2
    go_ret
    exact ⟨rfl, rfl⟩

/-- spec.l1one: what it answers of three floats. -/
def one1 (op : Int) (x y z : Nat) : Nat :=
  if op = 2 then cop .add x y else if op = 3 then cop .sub x y else if op = 4 then cop .mul x y else if op = 5 then cop .quo x y
  else if op = 6 then Op.negFloat .f64 x else if op = 7 then greaterN x y else if op = 8 then chosenN x y z else cexp x
set_option maxRecDepth 100000 in
set_option maxHeartbeats 1000000 in
theorem l1one (op : Int) (x y z : Nat) (w : World) (hx : x < 18446744073709551616) (hy : y < 18446744073709551616) (hz : z < 18446744073709551616)
    (h : op = 2 ∨ op = 3 ∨ op = 4 ∨ op = 5 ∨ op = 6 ∨ op = 7 ∨ op = 8 ∨ op = 13) :
    Calls Try.prog 80 #[.int .i64 op, .float .f64 x, .float .f64 y, .float .f64 z] w fun e w' => ∃ u, e = .returned (.float .f64 u) ∧ u < 18446744073709551616 ∧ fb u = fb (one1 op x y z) ∧ Drawn w w' := by
  have f1 := @run_fadd Try.prog
  have f2 := @run_fsub Try.prog
  have f3 := @run_fmul Try.prog
  have f4 := @run_fquo Try.prog
  have f5 := run_fneg'
  rcases h with rfl | rfl | rfl | rfl | rfl | rfl | rfl | rfl
  · go_enter Try.func80, Try.ntmps80
    go_wp2
    go_ret
    exact ⟨_, rfl, fop_lt _ _ _ _, fb_fop _ _ _ _, _, rfl⟩
  · go_enter Try.func80, Try.ntmps80
    go_wp2
    go_ret
    exact ⟨_, rfl, fop_lt _ _ _ _, fb_fop _ _ _ _, _, rfl⟩
  · go_enter Try.func80, Try.ntmps80
    go_wp2
    go_ret
    exact ⟨_, rfl, fop_lt _ _ _ _, fb_fop _ _ _ _, _, rfl⟩
  · go_enter Try.func80, Try.ntmps80
    go_wp2
    go_ret
    exact ⟨_, rfl, fop_lt _ _ _ _, fb_fop _ _ _ _, _, rfl⟩
  · go_enter Try.func80, Try.ntmps80
    go_wp2
    go_ret
    exact ⟨_, rfl, negf_lt hx, rfl, 0, rfl⟩
  · clear f1 f2 f3 f4 f5
    rw [show one1 7 x y z = greaterN x y from rfl]
    unfold greaterN
    cases t : (FloatKind.f64.format.order x y == some .gt)
    · go_enter Try.func80, Try.ntmps80
      go_wp2
      go_ret
      exact ⟨_, rfl, hy, rfl, 0, rfl⟩
    · go_enter Try.func80, Try.ntmps80
      go_wp2
      go_ret
      exact ⟨_, rfl, hx, rfl, 0, rfl⟩
  · clear f1 f2 f3 f4 f5
    rw [show one1 8 x y z = chosenN x y z from rfl]
    unfold chosenN
    cases t : (FloatKind.f64.format.order x 0 == some .gt)
    · go_enter Try.func80, Try.ntmps80
      go_wp2
      go_ret
      exact ⟨_, rfl, hz, rfl, 0, rfl⟩
    · go_enter Try.func80, Try.ntmps80
      go_wp2
      go_ret
      exact ⟨_, rfl, hy, rfl, 0, rfl⟩
  · clear f1 f2 f3 f4 f5
    go_enter Try.func80, Try.ntmps80
    go_wp2_with fail
    refine (specExp _ _ hx).mono ?_
    rintro e w' ⟨u, rfl, h1, h2, m, rfl⟩
    go_wp2
    go_ret
    exact ⟨u, rfl, h2, h1, m, rfl⟩

/-- spec.l1sum -/
def SumSaid (n : Nat) : Prop := ∀ (w : World) (g o c : Nat) (xs : List Nat), xs.length = n → n ≤ c → (∀ x ∈ xs, x < 18446744073709551616) → (∀ k, k < n → w.cell? ⟨g, o + k, none⟩ = some (.float .f64 (xs.getD k 0))) →
  Calls Try.prog 81 #[.slice (some ⟨g, o, none⟩) n c] w fun e w' => ∃ z, e = .returned (.float .f64 z) ∧ z < 18446744073709551616 ∧ fb z = fb (csum xs) ∧ Drawn w w'
set_option maxRecDepth 100000 in
set_option maxHeartbeats 1000000 in
theorem sum_one : SumSaid 1 := by
  intro w g o c xs hx hc lx kx
  have c0 := kx 0 (by omega)
  rw [Nat.add_zero] at c0
  have l0 := getD_lt lx 0
  have s0 : Hid (fb (xs.getD 0 0) = fb (csum xs)) := by
    have := csum_one xs (by omega)
    rw [List.take_of_length_le (by omega)] at this
    rw [this]; rfl
  clear kx lx hx
  generalize xs.getD 0 0 = x0 at c0 l0 s0
  go_enter Try.func81, Try.ntmps81
  go_wp2
  go_ret
  exact ⟨x0, rfl, l0, s0.out, Drawn.refl _⟩
set_option maxRecDepth 100000 in
set_option maxHeartbeats 1000000 in
theorem sum_succ (n : Nat) (h1 : 1 ≤ n) (hn : n < 1000) (IH : SumSaid n) : SumSaid (n + 1) := by
  intro w g o c xs hx hc lx kx
  have f1 := @run_fadd Try.prog
  have c0 := kx n (by omega)
  have l0 := getD_lt lx n
  have hsum : csum xs = cop .add (csum (xs.take n)) (xs.getD n 0) := by
    have := csum_take xs n (by omega) (by omega)
    rw [List.take_of_length_le (by omega)] at this
    exact this
  have HS : Hid _ := hsum
  have hI : Hid (∀ W, Drawn w W → Calls Try.prog 81 #[.slice (some ⟨g, o, none⟩) n c] W fun e w' => ∃ z, e = .returned (.float .f64 z) ∧ z < 18446744073709551616 ∧ fb z = fb (csum (xs.take n)) ∧ Drawn W w') := fun W hW =>
    IH W g o c (xs.take n) (by rw [List.length_take]; omega) (by omega) (fun x hm => lx x (List.mem_of_mem_take hm)) (fun k hk => by
      rw [hW.cell, kx k (by omega)]
      congr 2
      simp only [List.getD_eq_getElem?_getD]
      rw [List.getElem?_take_of_lt hk])
  clear hsum IH kx lx hx
  generalize xs.getD n 0 = y at c0 l0 HS
  have hI2 : ∀ m, Calls Try.prog 81 #[.slice (some ⟨g, o, none⟩) n c] (w.drewN m) fun e w' => ∃ z, e = .returned (.float .f64 z) ∧ z < 18446744073709551616 ∧ Hid (fb z = fb (csum (xs.take n))) ∧ Drawn w w' := fun m =>
    (hI.out _ ⟨m, rfl⟩).mono fun _ _ h => by obtain ⟨z, h1, h2, h3, h4⟩ := h; exact ⟨z, h1, h2, h3, Drawn.trans ⟨m, rfl⟩ h4⟩
  have c02 : ∀ w2, Drawn w w2 → w2.cell? ⟨g, o + n, none⟩ = some (.float .f64 y) := fun w2 h => by rw [h.cell]; exact c0
  have HI2 : Hid _ := hI2
  have HC02 : Hid _ := c02
  clear hI hI2 c02
  have t : (((n : Int) + 1) == 1) = false := beq_eq_false_iff_ne.2 (by omega)
  have hcn : n ≤ c := by omega
  have hci : (n : Int) ≤ (c : Int) := by omega
  have hwr : IntKind.i64.wrap (n : Int) = (n : Int) := by rw [IntKind.wrap_i64]; omega
  go_enter Try.func81, Try.ntmps81
  go_wp2_with fail
  go_region_with (go_at_call 81; refine (HI2.out 1).mono ?_; rintro e w2 ⟨z, rfl, hz, HZ, hD⟩; have c2 := HC02.out w2 hD)
  all_goals
    go_wp2
    go_ret
    refine ⟨_, rfl, fop_lt _ _ _ _, ?_, ?_⟩
    · rw [fb_fop, HS.out]
      congr 1
      exact cop_congr .add HZ.out rfl
    · exact hD.more _
theorem sum_all : ∀ n, 1 ≤ n → n ≤ 1000 → SumSaid n
  | 0, h, _ => by omega
  | 1, _, _ => sum_one
  | n + 2, _, h => sum_succ (n + 1) (by omega) (by omega) (sum_all (n + 1) (by omega) (by omega))
theorem sumFS (w : World) (n : Nat) (h1 : 1 ≤ n) (hn : n ≤ 1000) {l0 h0' : Nat} {a0 : Option Addr} {c0 : Nat} {xs : List Nat} (f0 : FS w l0 h0' a0 n xs) (hc : n ≤ c0) :
    Calls Try.prog 81 #[.slice a0 n c0] w fun e w' => ∃ z, e = .returned (.float .f64 z) ∧ z < 18446744073709551616 ∧ fb z = fb (csum xs) ∧ Drawn w w' := by
  rcases f0.at_ with h | ⟨g, o, rfl, _, _, b, k⟩
  · omega
  exact sum_all n h1 hn w g o c0 xs f0.len hc f0.lt k
end Go.Proofs.Ytcphabjekfihnaa
