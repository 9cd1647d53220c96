import Derived.Test.YtcphabjekfihnabGreatP35
import Derived.Test.YtcphabjekfihnabGreatP38
import Derived.Test.YtcphabjekfihnabGreatP39
import Derived.Test.YtcphabjekfihnabGreatP19
namespace Go.Proofs.YtcphabjekfihnabGreat
open Go.RowKit Flt
attribute [local go_sem] alloc_drewN setCell_drewN run_store_float
theorem run_store_func {P : Program} {w : World} {a : Addr} {m : Mode} (f : Fn) (b c : Array Value) : (store a (.func f b c) m).run P w = stored P w a (.func f b c) m := run_store P w a _ m rfl
attribute [local go_sem] run_store_func

set_option maxRecDepth 100000 in
set_option maxHeartbeats 2000000 in
theorem allIdxO (w : World) (g off m cap : Nat) (n : Int) (xs : List Int) (hx : xs.length = m) (hm : m ≤ 1000) (hc : ∀ k, k < m → w.cell? ⟨g, off + k, none⟩ = some (.int .i64 (xs.getD k 0))) :
    Calls Tryz.prog 29 #[.int .i64 n, .slice (some ⟨g, off, none⟩) m cap] w fun e w' => e = .returned (.bool (xs.all (idxB · n))) ∧ w = w' := by
  have HC : Hid _ := hc
  have HX : Hid (xs.length = m) := hx
  clear hc hx
  go_enter Tryz.func29, Tryz.ntmps29
  go_wp2_with fail
  go_loop [9] (fun i => ∃ k : Nat, k ≤ m ∧ i = .int .i64 k ∧ Hid ((xs.take k).all (idxB · n) = true)) (fun i => m - (intOf i).toNat)
  case atStart => exact ⟨0, Nat.zero_le _, rfl, rfl⟩
  case round =>
    obtain ⟨k, hk, rfl, hA⟩ := hrel
    by_cases hlt : k < m
    · have c := HC.out k hlt
      cases t : idxB (xs.getD k 0) n
      · have R : Hid (xs.all (idxB · n) = false) := by
          show _ = _
          rw [List.all_eq_false]
          exact ⟨xs.getD k 0, getD_memJ (by rw [HX.out]; exact hlt), by show ¬ idxB _ _ = true; rw [t]; decide⟩
        have HI : Hid _ := isIndex_any (xs.getD k 0) n w
        rw [t] at HI
        generalize xs.getD k 0 = x at c HI
        clear t
        go_wp2_with fail
        refine Calls.mono HI.out ?_
        rintro e w2 ⟨rfl, hw⟩
        have R3 : Hid (w = w2) := hw.symm
        clear hw
        go_wp2
        go_ret
        exact ⟨by rw [R.out]; rfl, R3.out⟩
      · have R : Hid ((xs.take (k + 1)).all (idxB · n) = true) := by
          show _ = _
          rw [List.take_succ_eq_append_getElem (by rw [HX.out]; exact hlt), List.all_append, hA.out]
          rw [List.getD_eq_getElem?_getD, List.getElem?_eq_getElem (by rw [HX.out]; exact hlt)] at t
          simpa using t
        have HI : Hid _ := isIndex_any (xs.getD k 0) n w
        rw [t] at HI
        generalize xs.getD k 0 = x at c HI
        clear t
        go_wp2_with fail
        refine Calls.mono HI.out ?_
        rintro e w2 ⟨rfl, rfl⟩
        go_wp2
        go_round
        case rel => exact ⟨k + 1, by omega, by go_num, R⟩
        case measure => simp [intOf]; omega
    · obtain rfl : k = m := by omega
      have R : Hid (xs.all (idxB · n) = true) := by
        have := hA.out
        rw [List.take_of_length_le (by rw [HX.out]; omega)] at this
        exact this
      clear hA
      go_wp2
      go_ret
      exact ⟨by rw [R.out]; rfl, rfl⟩


set_option maxRecDepth 100000 in
set_option maxHeartbeats 2000000 in
theorem allIdxZ (w : World) (a : Option Addr) (cap : Nat) (n : Int) : Calls Tryz.prog 29 #[.int .i64 n, .slice a 0 cap] w fun e w' => e = .returned (.bool true) ∧ w = w' := by
  go_enter Tryz.func29, Tryz.ntmps29
  go_wp2_with fail
  refine wp_loop_rounds 1 ?_
  rw [rounds_succ]
  go_wp2
  go_ret
  exact ⟨rfl, rfl⟩
theorem allIdxS (w : World) (lo hi : Nat) (a : Option Addr) (m cap : Nat) (n : Int) (xs : List Int) (f : IS w lo hi a m xs) (hm : m ≤ 1000) : Calls Tryz.prog 29 #[.int .i64 n, .slice a m cap] w fun e w' => e = .returned (.bool (xs.all (idxB · n))) ∧ w = w' := by
  rcases f.at_ with z | ⟨g, off, rfl, _, _, _, hc⟩
  · subst z
    have : xs = [] := List.length_eq_zero_iff.1 f.len
    subst this
    exact allIdxZ w a cap n
  · exact allIdxO w g off m cap n xs f.len hm hc

/-- The array of the five passes. -/
structure AP (W : World) (A : Nat) : Prop where
  lt : A < W.heap.size
  p0 : W.cell? ⟨A, 0, none⟩ = some (.func (.func 44) #[] #[])
  p1 : W.cell? ⟨A, 1, none⟩ = some (.func (.func 45) #[] #[])
  p2 : W.cell? ⟨A, 2, none⟩ = some (.func (.func 46) #[] #[])
  p3 : W.cell? ⟨A, 3, none⟩ = some (.func (.func 47) #[] #[])
  p4 : W.cell? ⟨A, 4, none⟩ = some (.func (.func 48) #[] #[])
theorem AP.keepC {W W' : World} {S : Nat → Prop} {A : Nat} (t : AP W A) (k : Chg S W W') (hd : ¬ S A) : AP W' A := by
  have e : ∀ o, W'.cell? ⟨A, o, none⟩ = W.cell? ⟨A, o, none⟩ := fun o => k.cell (p := ⟨A, o, none⟩) t.lt hd
  exact ⟨Nat.lt_of_lt_of_le t.lt k.size, by rw [e]; exact t.p0, by rw [e]; exact t.p1, by rw [e]; exact t.p2, by rw [e]; exact t.p3, by rw [e]; exact t.p4⟩
abbrev apagg : Value := .agg #[.func (.func 44) #[] #[], .func (.func 45) #[] #[], .func (.func 46) #[] #[], .func (.func 47) #[] #[], .func (.func 48) #[] #[]]
abbrev apbox : Obj := .cells #[.func (.func 44) #[] #[], .func (.func 45) #[] #[], .func (.func 46) #[] #[], .func (.func 47) #[] #[], .func (.func 48) #[] #[]] 52
theorem ap_start (w : World) : AP (w.alloc apbox) w.heap.size := by
  refine ⟨?_, ?_, ?_, ?_, ?_, ?_⟩
  all_goals first | (go_simp; done) | (simp; done)
set_option maxRecDepth 100000 in
set_option maxHeartbeats 2000000 in
theorem allPasses (w : World) : Calls Tryz.prog 30 #[] w fun e w' => e = .returned apagg ∧ Kept 0 0 w w' := by
  go_enter Tryz.func30, Tryz.ntmps30
  go_wp2
  refine bodyPost_ret (v := apagg) (by simp [results, Tryz.results30, go_sem]) rfl ⟨rfl, ?_⟩
  exact kept_alloc _ _ _ _
/-- What the loop of Optimise holds behind k passes. -/
structure PI (W w : World) (A O R G1 n1 d1 G2 n2 d2 G3 n3 d3 : Nat) (ins : List Int) (us : List Vl) (M : List Vl × List Int) : Prop where
  pg : PG W G1 G2 G3 n1 n2 n3 ins us M.2
  lk : Lk us M.1
  kb : Kb us
  arr : AP W A
  out : RB W O (.slice (some ⟨G1, 0, none⟩) n1 d1) (.slice (some ⟨G2, 0, none⟩) n2 d2) (.slice (some ⟨G3, 0, none⟩) n3 d3)
  res : RB W R (.slice none 0 0) (.slice none 0 0) (.slice none 0 0)
  lo : (w.heap.size ≤ G1 ∧ w.heap.size ≤ G2 ∧ w.heap.size ≤ G3) ∧ (w.heap.size ≤ A ∧ w.heap.size ≤ O ∧ w.heap.size ≤ R)
  ne : (G2 ≠ A ∧ G3 ≠ A ∧ G1 ≠ A) ∧ (G2 ≠ O ∧ G3 ≠ O ∧ G1 ≠ O) ∧ (G2 ≠ R ∧ G3 ≠ R ∧ G1 ≠ R) ∧ (O ≠ A ∧ O ≠ R ∧ A ≠ R)
  ke : Kept 0 0 w W
abbrev Put3O (w : World) (g : Nat) (x y z : Value) : World := ((w.setCell ⟨g, 0, none⟩ x).setCell ⟨g, 1, none⟩ y).setCell ⟨g, 2, none⟩ z
theorem PI.next {W W' W2 w : World} {A O R G1 n1 d1 G2 n2 d2 G3 n3 d3 G2' n2' c2' : Nat} {ins : List Int} {us us' : List Vl} {M M' : List Vl × List Int} (f : PI W w A O R G1 n1 d1 G2 n2 d2 G3 n3 d3 ins us M) (k : Kept 0 0 W W')
    (hp : PG W2 G1 G2' G3 n1 n2' n3 ins us' M'.2) (hl : Lk us' M'.1) (hk : Kb us') (hc : Chg (fun b => b = G2 ∨ b = G3) W' W2) (hg : G2' = G2 ∨ W'.heap.size ≤ G2') : RB W2 O (.slice (some ⟨G1, 0, none⟩) n1 d1) (.slice (some ⟨G2, 0, none⟩) n2 d2) (.slice (some ⟨G3, 0, none⟩) n3 d3) ∧ PI (Put3O W2 O (.slice (some ⟨G1, 0, none⟩) n1 d1) (.slice (some ⟨G2', 0, none⟩) n2' c2') (.slice (some ⟨G3, 0, none⟩) n3 d3)) w A O R G1 n1 d1 G2' n2' c2' G3 n3 d3 ins us' M' := by
  obtain ⟨⟨a1, a2, a3⟩, a4, a5, a6⟩ := f.lo
  obtain ⟨⟨e1, e2, e3⟩, ⟨e4, e5, e6⟩, ⟨e7, e8, e9⟩, e10, e11, e12⟩ := f.ne
  have hA := f.arr.lt
  have hO := f.out.sz
  have hR := f.res.sz
  have hz := k.size
  have o2 := (f.out.keep k).keepC hc (by omega)
  have kp := put3_kept W2 O (.slice (some ⟨G1, 0, none⟩) n1 d1) (.slice (some ⟨G2', 0, none⟩) n2' c2') (.slice (some ⟨G3, 0, none⟩) n3 d3)
  have cp : Chg (fun b => b = O) W2 (Put3O W2 O (.slice (some ⟨G1, 0, none⟩) n1 d1) (.slice (some ⟨G2', 0, none⟩) n2' c2') (.slice (some ⟨G3, 0, none⟩) n3 d3)) := kp.chg1 rfl
  have g2lo : w.heap.size ≤ G2' := by have := f.ke.size; rcases hg with c | c <;> omega
  have hGA : G2' ≠ A := by rcases hg with c | c <;> omega
  have hGO : G2' ≠ O := by rcases hg with c | c <;> omega
  have hGR : G2' ≠ R := by rcases hg with c | c <;> omega
  obtain ⟨y0, y1, y2⟩ := put3_0 W2 O _ _ _ o2.q0 o2.q1 o2.q2 (.slice (some ⟨G1, 0, none⟩) n1 d1) (.slice (some ⟨G2', 0, none⟩) n2' c2') (.slice (some ⟨G3, 0, none⟩) n3 d3)
  refine ⟨o2, ⟨⟨hp.i.keep kp (by omega), hp.v.keep kp (by omega), hp.o.keep kp (by omega), hp.d12, hp.d13, hp.d23⟩, hl, hk, ((f.arr.keepC (S := fun _ => False) k.chg id).keepC hc (by omega)).keepC cp (by omega), ⟨Nat.lt_of_lt_of_le o2.sz kp.size, y0, y1, y2, ?_, ?_, ?_⟩, ((f.res.keep k).keepC hc (by omega)).keepC cp (by omega), ⟨⟨a1, g2lo, a3⟩, a4, a5, a6⟩, ⟨⟨hGA, e2, e3⟩, ⟨hGO, e5, e6⟩, ⟨hGR, e8, e9⟩, e10, e11, e12⟩, ?_⟩⟩
  · simp [o2.f0]
  · simp [o2.f1]
  · simp [o2.f2]
  · refine (Chg.kept (S := fun b => b = G2 ∨ b = G3) (f.ke.trans k) hc (fun i hi => by omega)).new kp (by omega)
end Go.Proofs.YtcphabjekfihnabGreat
