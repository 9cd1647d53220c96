import Derived.Test.YtfbcgahmmjpijabH8
namespace Go.Proofs.Ytfbcgahmmjpijab
open Go.RowKit Flt
attribute [local go_sem] alloc_drewN setCell_drewN run_store_float

set_option maxRecDepth 100000 in
set_option maxHeartbeats 2000000 in
theorem shapes (w : World) (lo hi : Nat) (a b : Option Addr) (n m ca cb : Nat) (ins : List Int) (xss : List (List Nat)) (f : IS w lo hi a n ins) (g : SS w b m xss) (hn : n ≤ 1099511627776) :
    Calls Try.prog 87 #[.slice a n ca, .slice b m cb] w fun e w' => e = .returned (.bool (inB ins xss)) ∧ Drawn w w' := by
  have HF : Hid _ := f
  have HG : Hid _ := g
  have HL : Hid (ins.length = n ∧ xss.length = m) := ⟨f.len, g.len⟩
  clear f g
  by_cases hnm : m = n
  · subst hnm
    go_enter Try.func87, Try.ntmps87
    go_wp2_with fail
    go_loopw [5] (fun i W => ∃ k : Nat, k ≤ m ∧ i = .int .i64 k ∧ Hid ((List.range k).all (fun i => ((xss.getD i []).length : Int) == ins.getD i 0) = true) ∧ Hid (Drawn w W)) (fun i _ => m - (intOf i).toNat)
    case atStart => exact ⟨0, Nat.zero_le _, rfl, rfl, Drawn.refl _⟩
    case round =>
      obtain ⟨k, hk, rfl, hA, hD⟩ := hrel
      by_cases hlt : k < m
      · rcases HF.out.at_ with z0 | ⟨ga, oa, ea, z1, z2, z3, z4⟩
        · omega
        rcases HG.out.at_ with z0 | ⟨gb, ob, eb, y1, y2⟩
        · omega
        have c1 := (hD.out.cell _).trans (z4 k hlt)
        obtain ⟨b2, cc2, c2', _, _⟩ := y2 k hlt
        have c2 := (hD.out.cell _).trans c2'
        have j0 : (0 : Int) ≤ (k : Int) := by omega
        have j1 : (k : Int) < (m : Int) := by omega
        subst ea eb
        clear z1 z2 z3 z4 y1 y2 c2'
        cases hx : (((xss.getD k []).length : Int) == ins.getD k 0)
        · have R : Hid (inB ins xss = false) := by
            show inB ins xss = false
            unfold inB
            rw [HL.out.1, range_bad (p := fun i => ((xss.getD i []).length : Int) == ins.getD i 0) hlt hx, Bool.and_false]
          have hx' : (((xss.getD k []).length : Int) != ins.getD k 0) = true := by rw [bne, hx]; rfl
          generalize (xss.getD k []).length = y at c2 hx'
          generalize ins.getD k 0 = x at c1 hx'
          clear hx hA
          go_wp2_with fail
          go_quiet (fail)
          go_wp2
          go_ret
          exact ⟨by rw [R.out]; rfl, Drawn.more hD.out _⟩
        · have R : Hid _ := range_snoc (p := fun i => ((xss.getD i []).length : Int) == ins.getD i 0) hA.out hx
          have hx' : (((xss.getD k []).length : Int) != ins.getD k 0) = false := by rw [bne, hx]; rfl
          generalize (xss.getD k []).length = y at c2 hx'
          generalize ins.getD k 0 = x at c1 hx'
          clear hx hA
          go_wp2_with fail
          go_quiet (fail)
          go_wp2
          go_roundw
          case rel => exact ⟨k + 1, by omega, by go_num, R, Drawn.more hD.out _⟩
          case measure => simp [intOf]; omega
      · have R : Hid (inB ins xss = true) := by
          have h1 := hA.out
          rw [show k = m by omega] at h1
          show inB ins xss = true
          unfold inB
          rw [HL.out.1, HL.out.2, h1, decide_eq_true rfl]; rfl
        clear hA
        go_wp2
        go_ret
        exact ⟨by rw [R.out]; rfl, hD.out⟩
  · have e : inB ins xss = false := by
      unfold inB
      rw [HL.out.1, HL.out.2, decide_eq_false hnm, Bool.false_and]
    rw [e]
    have t : ((n : Int) != (m : Int)) = true := by simp; omega
    go_enter Try.func87, Try.ntmps87
    go_wp2
    go_ret
    exact ⟨rfl, Drawn.refl _⟩

set_option maxRecDepth 100000 in
set_option maxHeartbeats 2000000 in
theorem l1copy (w : World) (g off n c : Nat) (xs : List Nat) (hn : 1 ≤ n) (hn2 : n ≤ 1000000) (hx : xs.length = n) (hlt : ∀ x ∈ xs, x < 18446744073709551616) (hc : ∀ k, k < n → w.cell? ⟨g, off + k, none⟩ = some (.float .f64 (xs.getD k 0))) :
    Calls Try.prog 89 #[.slice (some ⟨g, off, none⟩) n c] w fun e w' => ∃ G cap, e = .returned (.slice (some ⟨G, 0, none⟩) n cap) ∧ n ≤ cap ∧ FO w' G n xs ∧ w.heap.size ≤ G ∧ Kept 0 0 w w' := by
  obtain ⟨i0, hi, hz0, hz1, hz2⟩ := info_parts infoF
  have HN : Hid _ := news_of (w := w) (g := g) (off := off) hx hc
  have HO : Hid _ := World.ownsRow_nil w w.heap.size 22 1
  have HX : Hid (xs.length = n) := hx
  have HLT : Hid _ := hlt
  clear hc hx hlt
  go_enter Try.func89, Try.ntmps89
  go_wp2_with (first | (at_builtin; refine wpList_append_own _ rfl _ _ 32 rfl w.heap.size 22 i0 (.float .f64 0) 1 8 Try.underlying32 hi hz0 hz1 hz2 rfl (by decide) _ _ _ rfl HO.out ⟨g, off, none⟩ n c (xs.map (Value.float .f64)) rfl ?c0 HN.out ?c2 ?c3 ?c4 ?c5 ?_))
  case c0 => exact HX.out
  case c2 => intro u hu; rfl
  case c3 => unfold maxLen; omega
  case c4 => omega
  intro v' w9 hown9 hg9 _
  have hown : w9.ownsRow w.heap.size 22 1 v' n (xs.map (Value.float .f64)) := by simpa using hown9
  obtain ⟨G, cap, rfl, b1, b2, b3⟩ := FO.of_own hown (by omega) HX.out HLT.out
  have R : Hid _ := grown_kept (base := w.heap.size) hg9 (fun k hk => by simp [Value.ownBlock] at hk) (Kept.refl 0 0 w) (Nat.le_refl _)
  clear hown9 hg9 hown
  go_wp2
  go_ret
  exact ⟨G, cap, by simp, b2, b3, b1, R.out⟩
end Go.Proofs.Ytfbcgahmmjpijab
