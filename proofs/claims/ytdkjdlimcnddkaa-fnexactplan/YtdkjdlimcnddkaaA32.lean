import Derived.Test.YtdkjdlimcnddkaaA29
import Derived.Test.YtdkjdlimcnddkaaA31
import Derived.Lib.EndianBits
namespace Go.Proofs.Ytdkjdlimcnddkaa
open Go.RowKit Flt
attribute [local go_sem] alloc_drewN setCell_drewN run_store_float

/-- Bytes that lie below hi. -/
structure YL (w : World) (hi : Nat) (a : Option Addr) (n : Nat) (xs : List Int) : Prop where
  len : xs.length = n
  at_ : n = 0 ∨ ∃ g off, a = some ⟨g, off, none⟩ ∧ g < hi ∧ g < w.heap.size ∧ ∀ k, k < n → w.cell? ⟨g, off + k, none⟩ = some (.int .u8 (xs.getD k 0))
theorem YL.keepC {w w' : World} {S : Nat → Prop} {hi n : Nat} {a : Option Addr} {xs : List Int} (f : YL w hi a n xs) (k : Chg S w w') (hd : ∀ g, g < hi → ¬ S g) : YL w' hi a n xs :=
  ⟨f.len, by
    rcases f.at_ with h0 | ⟨g, off, e, h1, h3, h4⟩
    · exact .inl h0
    · exact .inr ⟨g, off, e, h1, Nat.lt_of_lt_of_le h3 k.size, fun j hj => by rw [k.cell (p := ⟨g, off + j, none⟩) h3 (hd g h1)]; exact h4 j hj⟩⟩
/-- The reader's box at R: it stands at p; sh says that bytes were missing. -/
structure Rd (W : World) (hi R : Nat) (bs : List Int) (p : Nat) (sh : Bool) : Prop where
  ex : ∃ a c, W.cell? ⟨R, 0, none⟩ = some (.slice a (bs.length - p) c) ∧ YL W hi a (bs.length - p) (bs.drop p) ∧ bs.length - p ≤ c ∧ c ≤ 9223372036854775807
  c1 : W.cell? ⟨R, 1, none⟩ = some (.bool sh)
  f0 : W.frozen? ⟨R, 0, none⟩ = false
  f1 : W.frozen? ⟨R, 1, none⟩ = false
  lt : R < W.heap.size
  le : hi ≤ R
  pl : p ≤ bs.length
theorem Rd.keepC {W W' : World} {S : Nat → Prop} {hi R : Nat} {bs : List Int} {p : Nat} {sh : Bool} (f : Rd W hi R bs p sh) (k : Chg S W W') (hd : ∀ g, g < hi → ¬ S g) (hR : ¬ S R) : Rd W' hi R bs p sh := by
  have e : ∀ o, W'.cell? ⟨R, o, none⟩ = W.cell? ⟨R, o, none⟩ := fun o => k.cell (p := ⟨R, o, none⟩) f.lt hR
  have e2 : ∀ o, W'.frozen? ⟨R, o, none⟩ = W.frozen? ⟨R, o, none⟩ := fun o => k.frozen (p := ⟨R, o, none⟩) f.lt hR
  obtain ⟨a, c, h1, h2, h3, h4⟩ := f.ex
  exact ⟨⟨a, c, by rw [e]; exact h1, h2.keepC k hd, h3, h4⟩, by rw [e]; exact f.c1, by rw [e2]; exact f.f0, by rw [e2]; exact f.f1, Nat.lt_of_lt_of_le f.lt k.size, f.le, f.pl⟩
theorem drop_getD (bs : List Int) (p k : Nat) : (bs.drop p).getD k 0 = bs.getD (p + k) 0 := by
  rw [List.getD_eq_getElem?_getD, List.getElem?_drop, ← List.getD_eq_getElem?_getD]
theorem or_step {bs : List Int} (h : Bts bs) (p k : Nat) (hk : k < 8) : bits .or .u64 (numAt bs p k) (bs.getD (p + k) 0 * 256 ^ k) = numAt bs p (k + 1) := by
  have h1 := numAt_rng h p k
  have h2 := byte_lt h (p + k)
  rw [show numAt bs p (k + 1) = numAt bs p k + bs.getD (p + k) 0 * 256 ^ k from rfl]
  generalize numAt bs p k = x at h1 ⊢
  generalize bs.getD (p + k) 0 = y at h2 ⊢
  rcases (by omega : k = 0 ∨ k = 1 ∨ k = 2 ∨ k = 3 ∨ k = 4 ∨ k = 5 ∨ k = 6 ∨ k = 7) with rfl | rfl | rfl | rfl | rfl | rfl | rfl | rfl
  · simp at h1
    have e : x = 0 := by omega
    subst e
    rw [Int.pow_zero, Int.mul_one]
    exact bits_join_low .u64 64 (by decide) wraps_u64 0 0 y (by omega) (by omega) (by omega) (by omega) (by omega) (by omega)
  · exact u64_or8 _ _ (by omega) (by omega) (by omega) (by omega) (by omega)
  · exact u64_or16 _ _ (by omega) (by omega) (by omega) (by omega) (by omega)
  · exact u64_or24 _ _ (by omega) (by omega) (by omega) (by omega) (by omega)
  · exact u64_or32 _ _ (by omega) (by omega) (by omega) (by omega) (by omega)
  · exact u64_or40 _ _ (by omega) (by omega) (by omega) (by omega) (by omega)
  · exact u64_or48 _ _ (by omega) (by omega) (by omega) (by omega) (by omega)
  · exact u64_or56 _ _ (by omega) (by omega) (by omega) (by omega) (by omega)
theorem or_stepW {bs : List Int} (h : Bts bs) (p k : Nat) (hk : k < 8) : bits .or .u64 (numAt bs p k) (IntKind.u64.wrap (bs.getD (p + k) 0 * 2 ^ (8 * k))) = numAt bs p (k + 1) := by
  have h2 := byte_lt h (p + k)
  have e : (2 : Int) ^ (8 * k) = 256 ^ k := by rw [Int.pow_mul]; rfl
  rw [e]
  have h3 : IntKind.u64.wrap (bs.getD (p + k) 0 * 256 ^ k) = bs.getD (p + k) 0 * 256 ^ k := by
    refine u64_wrap_id _ (Int.mul_nonneg h2.1 (Int.le_of_lt (Int.pow_pos (by decide)))) ?_
    rcases (by omega : k = 0 ∨ k = 1 ∨ k = 2 ∨ k = 3 ∨ k = 4 ∨ k = 5 ∨ k = 6 ∨ k = 7) with rfl | rfl | rfl | rfl | rfl | rfl | rfl | rfl <;> omega
  rw [h3]
  exact or_step h p k hk
set_option maxRecDepth 100000 in
set_option maxHeartbeats 4000000 in
theorem number_ok (W : World) (hi R : Nat) (bs : List Int) (p sz : Nat) (sh : Bool) (f : Rd W hi R bs p sh) (hB : Bts bs) (h1 : 1 ≤ sz) (h8 : sz ≤ 8) (hp : p + sz ≤ bs.length) :
    Calls Try.prog 68 #[.pointer (some ⟨R, 0, none⟩), .int .i64 (sz : Nat)] W fun e w' => e = .returned (.int .u64 (numAt bs p sz)) ∧ Rd w' hi R bs (p + sz) sh ∧ Chg (fun b => b = R) W w' := by
  obtain ⟨a, c, e0, y0, e2, e3⟩ := f.ex
  rcases y0.at_ with z | ⟨g, off, rfl, z1, z2, z3⟩
  · omega
  have HZ : Hid _ := z3
  have HF : Hid _ := f
  have HO : Hid (∀ k, k < sz → _) := fun k hk => or_stepW hB p k (by omega)
  have HY : Hid (∀ k, 0 ≤ bs.getD (p + k) 0 ∧ bs.getD (p + k) 0 < 256) := fun k => byte_lt hB (p + k)
  have HN : Hid (∀ k, _) := fun k => numAt_rng hB p k
  have f0 := f.f0
  generalize hn : bs.length - p = n at e0 e2 HZ
  have hsn : sz ≤ n := by omega
  have HE : Hid (bs.length - p = n ∧ p + sz ≤ bs.length) := ⟨hn, hp⟩
  clear f z3 y0 hB hn hp
  go_enter Try.func68, Try.ntmps68
  go_wp2_with fail
  go_loopw [5, 18] (fun x i W' => ∃ k : Nat, k ≤ sz ∧ i = .int .i64 k ∧ x = .int .u64 (numAt bs p k) ∧ W' = W) (fun _ i _ => sz - (intOf i).toNat)
  case atStart => exact ⟨0, Nat.zero_le _, rfl, rfl, rfl⟩
  case round =>
    obtain ⟨k, hk, rfl, rfl, rfl⟩ := hrel
    by_cases hlt : k < sz
    · have c1 := HZ.out k (by omega)
      rw [drop_getD] at c1
      have ho := HO.out k hlt
      have hy := HY.out k
      have hx := HN.out k
      generalize bs.getD (p + k) 0 = y at c1 ho hy
      obtain ⟨x', hx'⟩ : ∃ x', x' = numAt bs p (k + 1) := ⟨_, rfl⟩
      rw [← hx'] at ho
      generalize numAt bs p k = x at ho hx ⊢
      have HO' : Hid _ := ho
      have HX' : Hid _ := hx'
      clear ho hx'
      go_wp2_with fail
      exact ⟨⟨k + 1, by omega, by go_num, by rw [HO'.out, HX'.out], trivial⟩, by simp [intOf]; omega⟩
    · obtain rfl : k = sz := by omega
      obtain ⟨x, hx⟩ : ∃ x, x = numAt bs p k := ⟨_, rfl⟩
      rw [← hx]
      have HX : Hid _ := hx
      clear hx
      by_cases hck : c = k
      · have hnk : n = k := by omega
        have RR : Hid (Rd (wr.setCell ⟨R, 0, none⟩ (.slice (some ⟨g, off, none⟩) 0 0)) hi R bs (p + k) sh ∧ Chg (fun b => b = R) wr (wr.setCell ⟨R, 0, none⟩ (.slice (some ⟨g, off, none⟩) 0 0))) := by
          have hf := HF.out
          have he := HE.out
          have hN : bs.length - (p + k) = 0 := by omega
          refine ⟨⟨⟨some ⟨g, off, none⟩, 0, ?_, ⟨by rw [List.length_drop], .inl hN⟩, by omega, by omega⟩, ?_, by simp [hf.f0], by simp [hf.f1], by simpa using hf.lt, hf.le, by omega⟩, chg_setCell _ _ _ _ rfl⟩
          · rw [hN]; exact cell_eq _ _ _ _ _ e0
          · rw [cell_ne _ _ _ _ _ _ (.inr (by omega))]; exact hf.c1
        subst hck
        subst hnk
        clear HZ HO HY HN HE HF
        go_wp2_with fail
        go_ret
        exact ⟨by rw [← HX.out]; rfl, RR.out⟩
      · have RR : Hid (Rd (wr.setCell ⟨R, 0, none⟩ (.slice (some ⟨g, off + k, none⟩) (n - k) (c - k))) hi R bs (p + k) sh ∧ Chg (fun b => b = R) wr (wr.setCell ⟨R, 0, none⟩ (.slice (some ⟨g, off + k, none⟩) (n - k) (c - k)))) := by
          have hf := HF.out
          have he := HE.out
          have hgR : g ≠ R := by have := hf.le; omega
          have hN : bs.length - (p + k) = n - k := by omega
          refine ⟨⟨⟨some ⟨g, off + k, none⟩, c - k, ?_, ⟨by rw [List.length_drop], ?_⟩, by omega, by omega⟩, ?_, by simp [hf.f0], by simp [hf.f1], by simpa using hf.lt, hf.le, by omega⟩, chg_setCell _ _ _ _ rfl⟩
          · rw [hN]; exact cell_eq _ _ _ _ _ e0
          · refine .inr ⟨g, off + k, rfl, z1, by simpa using z2, fun j hj => ?_⟩
            rw [cell_ne _ _ _ _ _ _ (.inl (fun e => hgR e.symm)), drop_getD]
            have := HZ.out (k + j) (by omega)
            rw [drop_getD] at this
            rw [Nat.add_assoc, this, Nat.add_assoc]
          · rw [cell_ne _ _ _ _ _ _ (.inr (by omega))]; exact hf.c1
        clear HZ HO HY HN HE HF
        go_wp2_with fail
        go_ret
        exact ⟨by rw [← HX.out]; rfl, RR.out⟩
set_option maxRecDepth 100000 in
set_option maxHeartbeats 4000000 in
theorem number_sh (W : World) (hi R : Nat) (bs : List Int) (p sz : Nat) (sh : Bool) (f : Rd W hi R bs p sh) (hp : ¬ p + sz ≤ bs.length) :
    Calls Try.prog 68 #[.pointer (some ⟨R, 0, none⟩), .int .i64 (sz : Nat)] W fun e w' => e = .returned (.int .u64 0) ∧ Rd w' hi R bs p true ∧ Chg (fun b => b = R) W w' := by
  obtain ⟨a, c, e0, y0, e2, e3⟩ := f.ex
  have f1 := f.f1
  have c1 := f.c1
  have hlt : bs.length - p < sz := by have := f.pl; omega
  have R1 : Hid (Rd (W.setCell ⟨R, 1, none⟩ (.bool true)) hi R bs p true ∧ Chg (fun b => b = R) W (W.setCell ⟨R, 1, none⟩ (.bool true))) := by
    refine ⟨⟨⟨a, c, ?_, ?_, e2, e3⟩, cell_eq _ _ _ _ _ c1, by simp [f.f0], by simp [f.f1], by simpa using f.lt, f.le, f.pl⟩, chg_setCell _ _ _ _ rfl⟩
    · rw [cell_ne _ _ _ _ _ _ (.inr (by omega))]; exact e0
    · exact y0.keepC (chg_setCell (S := fun b => b = R) W R 1 (.bool true) rfl) (fun g hg e => by have := f.le; omega)
  generalize bs.length - p = n at e0 hlt
  clear f y0 e2 e3 hp
  go_enter Try.func68, Try.ntmps68
  go_wp2_with fail
  go_ret
  exact ⟨rfl, R1.out⟩
/-- The reader, as a state. -/
structure RdS (W : World) (hi R : Nat) (bs : List Int) (s : Option Nat) : Prop where
  good : ∀ p, s = some p → Rd W hi R bs p false
  bad : s = none → ∃ p, Rd W hi R bs p true
theorem RdS.of {W : World} {hi R : Nat} {bs : List Int} {p : Nat} (h : Rd W hi R bs p false) : RdS W hi R bs (some p) := ⟨fun _ e => (by cases e; exact h), fun e => (by cases e)⟩
theorem RdS.off {W : World} {hi R : Nat} {bs : List Int} {p : Nat} (h : Rd W hi R bs p true) : RdS W hi R bs none := ⟨fun _ e => (by cases e), fun _ => ⟨p, h⟩⟩
theorem RdS.keepC {W W' : World} {S : Nat → Prop} {hi R : Nat} {bs : List Int} {s : Option Nat} (f : RdS W hi R bs s) (k : Chg S W W') (hd : ∀ g, g < hi → ¬ S g) (hR : ¬ S R) : RdS W' hi R bs s :=
  ⟨fun p e => (f.good p e).keepC k hd hR, fun e => by obtain ⟨p, h⟩ := f.bad e; exact ⟨p, h.keepC k hd hR⟩⟩
theorem RdS.lt {W : World} {hi R : Nat} {bs : List Int} {s : Option Nat} (f : RdS W hi R bs s) : R < W.heap.size ∧ hi ≤ R := by
  cases s with
  | some p => exact ⟨(f.good p rfl).lt, (f.good p rfl).le⟩
  | none => obtain ⟨p, h⟩ := f.bad rfl; exact ⟨h.lt, h.le⟩
theorem RdS.short {W : World} {hi R : Nat} {bs : List Int} {s : Option Nat} (f : RdS W hi R bs s) : W.cell? ⟨R, 1, none⟩ = some (.bool s.isNone) := by
  cases s with
  | some p => exact (f.good p rfl).c1
  | none => obtain ⟨p, h⟩ := f.bad rfl; exact h.c1
theorem RdS.pl {W : World} {hi R : Nat} {bs : List Int} {p : Nat} (f : RdS W hi R bs (some p)) : p ≤ bs.length := (f.good p rfl).pl
theorem number_s (W : World) (hi R : Nat) (bs : List Int) (s : Option Nat) (sz : Nat) (f : RdS W hi R bs s) (hB : Bts bs) (h1 : 1 ≤ sz) (h8 : sz ≤ 8) :
    Calls Try.prog 68 #[.pointer (some ⟨R, 0, none⟩), .int .i64 (sz : Nat)] W fun e w' => ∃ x : Int, e = .returned (.int .u64 x) ∧ (0 ≤ x ∧ x < 256 ^ sz) ∧ RdS w' hi R bs (adv bs.length sz s) ∧ (∀ p, s = some p → p + sz ≤ bs.length → x = numAt bs p sz) ∧ Chg (fun b => b = R) W w' := by
  have hz : (0 : Int) < 256 ^ sz := Int.pow_pos (by decide)
  cases s with
  | some p =>
    by_cases hp : p + sz ≤ bs.length
    · refine (number_ok W hi R bs p sz false (f.good p rfl) hB h1 h8 hp).mono fun e w' ⟨q1, q2, q3⟩ => ⟨_, q1, numAt_rng hB p sz, ?_, fun p' e' _ => (by cases e'; rfl), q3⟩
      simp only [adv]
      rw [if_pos hp]
      exact RdS.of q2
    · refine (number_sh W hi R bs p sz false (f.good p rfl) hp).mono fun e w' ⟨q1, q2, q3⟩ => ⟨_, q1, ⟨by omega, hz⟩, ?_, fun p' e' h => (by cases e'; exact absurd h hp), q3⟩
      simp only [adv]
      rw [if_neg hp]
      exact RdS.off q2
  | none =>
    obtain ⟨p, f⟩ := f.bad rfl
    by_cases hp : p + sz ≤ bs.length
    · exact (number_ok W hi R bs p sz true f hB h1 h8 hp).mono fun e w' ⟨q1, q2, q3⟩ => ⟨_, q1, numAt_rng hB p sz, RdS.off q2, fun p' e' _ => (by cases e'), q3⟩
    · exact (number_sh W hi R bs p sz true f hp).mono fun e w' ⟨q1, q2, q3⟩ => ⟨_, q1, ⟨by omega, hz⟩, RdS.off q2, fun p' e' _ => (by cases e'), q3⟩
set_option maxRecDepth 100000 in
set_option maxHeartbeats 2000000 in
theorem count_s (W : World) (hi R : Nat) (bs : List Int) (s : Option Nat) (f : RdS W hi R bs s) (hB : Bts bs) :
    Calls Try.prog 70 #[.pointer (some ⟨R, 0, none⟩)] W fun e w' => ∃ x : Int, e = .returned (.int .i64 x) ∧ (0 ≤ x ∧ x < 65536) ∧ RdS w' hi R bs (adv bs.length 2 s) ∧ (∀ p, s = some p → p + 2 ≤ bs.length → x = numAt bs p 2) ∧ Chg (fun b => b = R) W w' := by
  have HN : Hid _ := number_s W hi R bs s 2 f hB (by decide) (by decide)
  clear f hB
  go_enter Try.func70, Try.ntmps70
  go_wp2_with fail
  refine Calls.mono HN.out ?_
  rintro e w2 ⟨x, rfl, ⟨h1, h2⟩, h3, h4, h5⟩
  have R1 : Hid _ := h3
  have R2 : Hid _ := h4
  have R3 : Hid _ := h5
  have h2' : x < 65536 := by simpa using h2
  clear h2 h3 h4 h5
  go_wp2_with fail
  go_ret
  exact ⟨x, rfl, ⟨h1, h2'⟩, R1.out, R2.out, R3.out⟩
set_option maxRecDepth 100000 in
set_option maxHeartbeats 2000000 in
theorem span_s (W : World) (hi R : Nat) (bs : List Int) (s : Option Nat) (f : RdS W hi R bs s) (hB : Bts bs) :
    Calls Try.prog 74 #[.pointer (some ⟨R, 0, none⟩)] W fun e w' => ∃ x : Spn, e = .returned x.agg ∧ RdS w' hi R bs (adv bs.length 4 s) ∧ (∀ p, s = some p → p + 4 ≤ bs.length → x = spnAt bs p) ∧ Chg (fun b => b = R) W w' := by
  have k0 := kept_alloc 0 0 W (.cells #[.int .i64 0, .int .i64 0] 83)
  have HRW : Hid (R < W.heap.size) := f.lt.1
  have HF : Hid _ := f.keepC (k0.chg (S := fun _ => False)) (fun _ _ h => h) (fun h => h)
  have HK : Hid (Chg (fun b => b = R) W (W.alloc (.cells #[.int .i64 0, .int .i64 0] 83))) := k0.chg
  have HB : Hid _ := hB
  have HC0 : Hid ((W.alloc (.cells #[.int .i64 0, .int .i64 0] 83)).cell? ⟨W.heap.size, 0, none⟩ = some (.int .i64 0) ∧ (W.alloc (.cells #[.int .i64 0, .int .i64 0] 83)).cell? ⟨W.heap.size, 1, none⟩ = some (.int .i64 0) ∧ (∀ o, (W.alloc (.cells #[.int .i64 0, .int .i64 0] 83)).frozen? ⟨W.heap.size, o, none⟩ = false)) := ⟨by go_simp, by go_simp, fun o => by simp⟩
  clear f hB k0
  go_enter Try.func74, Try.ntmps74
  go_wp2_with fail
  have HZ0 : Hid (R ≠ W.heap.size ∧ W.heap.size < (W.alloc (.cells #[.int .i64 0, .int .i64 0] 83)).heap.size) := by refine ⟨?_, by simp⟩; have := HRW.out; omega
  generalize W.alloc (.cells #[.int .i64 0, .int .i64 0] 83) = w1 at HF HK HC0 HZ0 ⊢
  generalize hA : W.heap.size = A at HC0 HZ0 ⊢
  have HA : Hid _ := hA
  clear hA
  refine Calls.mono (count_s w1 hi R bs s HF.out HB.out) ?_
  rintro e w2 ⟨x, rfl, b2, s2, v2, d2⟩
  have HS2 : Hid _ := s2
  have HV2 : Hid _ := v2
  have HK2 : Hid _ := Chg.andThen HK.out d2
  have HD2 : Hid _ := d2
  clear s2 v2 d2 HF HK
  go_wp2_with fail
  refine Calls.mono (count_s w2 hi R bs _ HS2.out HB.out) ?_
  rintro e w3 ⟨y, rfl, b3, s3, v3, d3⟩
  rw [adv_add] at s3
  have HS3 : Hid _ := s3
  have HV3 : Hid _ := v3
  have HK3 : Hid _ := Chg.andThen HK2.out d3
  have hD : Chg (fun b => b = R) w1 w3 := Chg.andThen HD2.out d3
  have c0 : w3.cell? ⟨A, 0, none⟩ = some (.int .i64 0) := by rw [hD.cell (p := ⟨A, 0, none⟩) HZ0.out.2 (fun e => HZ0.out.1 e.symm)]; exact HC0.out.1
  have c1 : w3.cell? ⟨A, 1, none⟩ = some (.int .i64 0) := by rw [hD.cell (p := ⟨A, 1, none⟩) HZ0.out.2 (fun e => HZ0.out.1 e.symm)]; exact HC0.out.2.1
  have f0 : ∀ o, w3.frozen? ⟨A, o, none⟩ = false := fun o => by rw [hD.frozen (p := ⟨A, o, none⟩) HZ0.out.2 (fun e => HZ0.out.1 e.symm)]; exact HC0.out.2.2 o
  have HD : Hid _ := hD
  clear s3 v3 d3 hD HK2 HS2 HD2 HC0
  have g0 := f0 0
  have g1 := f0 1
  have hR3 := HS3.out.lt
  have hRA : R < A := by have := HRW.out; have := HA.out; omega
  have kA : ∀ u v, Chg (fun b => b = A) w3 ((w3.setCell ⟨A, 0, none⟩ u).setCell ⟨A, 1, none⟩ v) := fun u v => Chg.andThen (chg_setCell (S := fun b => b = A) _ A 0 u rfl) (chg_setCell _ A 1 v rfl)
  have RR : Hid (RdS ((w3.setCell ⟨A, 0, none⟩ (.int .i64 x)).setCell ⟨A, 1, none⟩ (.int .i64 y)) hi R bs (adv bs.length (2 + 2) s)) := HS3.out.keepC (kA _ _) (fun g hg e => by omega) (fun e => by omega)
  have RK : Hid (Chg (fun b => b = R) W ((w3.setCell ⟨A, 0, none⟩ (.int .i64 x)).setCell ⟨A, 1, none⟩ (.int .i64 y))) := Chg.new HK3.out (kA _ _) (fun i hi e => by have := HA.out; omega)
  have RV : Hid (∀ p, s = some p → p + 4 ≤ bs.length → (⟨x, y⟩ : Spn) = spnAt bs p) := fun p hp hl => by
    subst hp
    have h1 := HV2.out p rfl (by omega)
    have h2 := HV3.out (p + 2) (by simp only [adv]; rw [if_pos (by omega)]) (by omega)
    rw [h1, h2]; rfl
  have Y0 : Hid (((w3.setCell ⟨A, 0, none⟩ (.int .i64 x)).setCell ⟨A, 1, none⟩ (.int .i64 y)).cell? ⟨A, 0, none⟩ = some (.int .i64 x)) := by
    show _ = _
    rw [cell_ne _ _ _ _ _ _ (.inr (by omega))]; exact cell_eq _ _ _ _ _ c0
  have Y1 : Hid (((w3.setCell ⟨A, 0, none⟩ (.int .i64 x)).setCell ⟨A, 1, none⟩ (.int .i64 y)).cell? ⟨A, 1, none⟩ = some (.int .i64 y)) := by
    exact cell_eq _ _ _ _ _ (by rw [cell_ne _ _ _ _ _ _ (.inr (by omega))]; exact c1)
  clear kA f0 HS3 HK3 HV2 HV3 hR3 hRA
  go_wp2_with fail
  have y0 := Y0.out
  have y1 := Y1.out
  refine bodyPost_ret (v := Spn.agg ⟨x, y⟩) (by simp [results, Try.results74, go_sem, y0, y1]) rfl ⟨⟨x, y⟩, rfl, RR.out, RV.out, RK.out⟩
end Go.Proofs.Ytdkjdlimcnddkaa

namespace Go.Proofs.Ytdkjdlimcnddkaa
open Go.RowKit Flt
attribute [local go_sem] alloc_drewN setCell_drewN run_store_float

/-- A step whose six fields are a list. -/
def steF (x : Int) (fs : List Int) (z : Nat) : Ste := ⟨x, fs.getD 0 0, fs.getD 1 0, fs.getD 2 0, fs.getD 3 0, fs.getD 4 0, fs.getD 5 0, z⟩
/-- The step's box at A while its fields are read. -/
structure StB (W : World) (A : Nat) (x : Int) (fs : List Int) (z : Nat) : Prop where
  len : fs.length = 6
  c0 : W.cell? ⟨A, 0, none⟩ = some (.int .i64 x)
  cf : ∀ i, i < 6 → W.cell? ⟨A, i + 1, none⟩ = some (.int .i64 (fs.getD i 0))
  c7 : W.cell? ⟨A, 7, none⟩ = some (.float .f64 z)
  fr : ∀ o, W.frozen? ⟨A, o, none⟩ = false
  lt : A < W.heap.size
theorem StB.at_ {W : World} {A : Nat} {x : Int} {fs : List Int} {z : Nat} (f : StB W A x fs z) : AtT W A 0 (steF x fs z) :=
  ⟨f.c0, f.cf 0 (by omega), f.cf 1 (by omega), f.cf 2 (by omega), f.cf 3 (by omega), f.cf 4 (by omega), f.cf 5 (by omega), f.c7⟩
theorem StB.keepC {W W' : World} {S : Nat → Prop} {A : Nat} {x : Int} {fs : List Int} {z : Nat} (f : StB W A x fs z) (k : Chg S W W') (hd : ¬ S A) : StB W' A x fs z := by
  have e : ∀ o, W'.cell? ⟨A, o, none⟩ = W.cell? ⟨A, o, none⟩ := fun o => k.cell (p := ⟨A, o, none⟩) f.lt hd
  have e2 : ∀ o, W'.frozen? ⟨A, o, none⟩ = W.frozen? ⟨A, o, none⟩ := fun o => k.frozen (p := ⟨A, o, none⟩) f.lt hd
  exact ⟨f.len, by rw [e]; exact f.c0, fun i hi => by rw [e]; exact f.cf i hi, by rw [e]; exact f.c7, fun o => by rw [e2]; exact f.fr o, Nat.lt_of_lt_of_le f.lt k.size⟩
theorem StB.put {W : World} {A : Nat} {x : Int} {fs : List Int} {z : Nat} (f : StB W A x fs z) {k : Nat} (hk : k < 6) (y : Int) : StB (W.setCell ⟨A, k + 1, none⟩ (.int .i64 y)) A x (fs.set k y) z where
  len := by rw [List.length_set]; exact f.len
  c0 := by rw [cell_ne _ _ _ _ _ _ (.inr (by omega))]; exact f.c0
  cf := fun i hi => by
    rw [getD_set fs 0 y k i (by rw [f.len]; exact hk)]
    by_cases e : i = k
    · subst e
      rw [if_pos rfl]
      exact cell_eq _ _ _ _ _ (f.cf i hi)
    · rw [if_neg e, cell_ne _ _ _ _ _ _ (.inr (by omega))]
      exact f.cf i hi
  c7 := by rw [cell_ne _ _ _ _ _ _ (.inr (by omega))]; exact f.c7
  fr := fun o => by simp [f.fr o]
  lt := by simpa using f.lt
theorem StB.put7 {W : World} {A : Nat} {x : Int} {fs : List Int} {z : Nat} (f : StB W A x fs z) (y : Nat) : StB (W.setCell ⟨A, 7, none⟩ (.float .f64 y)) A x fs y where
  len := f.len
  c0 := by rw [cell_ne _ _ _ _ _ _ (.inr (by omega))]; exact f.c0
  cf := fun i hi => by rw [cell_ne _ _ _ _ _ _ (.inr (by omega))]; exact f.cf i hi
  c7 := cell_eq _ _ _ _ _ f.c7
  fr := fun o => by simp [f.fr o]
  lt := by simpa using f.lt
/-- What was read of a step. -/
def Fds (bs : List Int) (s : Option Nat) (k : Nat) (fs : List Int) : Prop := ∀ p, s = some p → p + 1 + 2 * k ≤ bs.length → ∀ i, i < k → fs.getD i 0 = fldAt bs p i
theorem Fds.put {bs : List Int} {s : Option Nat} {k : Nat} {fs : List Int} (f : Fds bs s k fs) (hl : fs.length = 6) (hk : k < 6) (y : Int) (hy : ∀ p, adv bs.length (1 + 2 * k) s = some p → p + 2 ≤ bs.length → y = numAt bs p 2) : Fds bs s (k + 1) (fs.set k y) := by
  intro p hp hlen i hi
  rw [getD_set fs 0 y k i (by rw [hl]; exact hk)]
  by_cases e : i = k
  · rw [if_pos e, hy (p + 1 + 2 * k) (by subst hp; simp only [adv]; rw [if_pos (by omega)]; congr 1; omega) (by omega), e]; rfl
  · rw [if_neg e]
    exact f p hp (by omega) i (by omega)
abbrev put8z (w : World) (g : Nat) (v : Ste) : World :=
  ((((((((w.setCell ⟨g, 0, none⟩ (.int .i64 v.op)).setCell ⟨g, 1, none⟩ (.int .i64 v.len)).setCell ⟨g, 2, none⟩ (.int .i64 v.n)).setCell ⟨g, 3, none⟩ (.int .i64 v.dst)).setCell ⟨g, 4, none⟩ (.int .i64 v.a)).setCell ⟨g, 5, none⟩ (.int .i64 v.b)).setCell ⟨g, 6, none⟩ (.int .i64 v.c)).setCell ⟨g, 7, none⟩ (.float .f64 v.k))
theorem put8z_at (w : World) (g : Nat) (u v : Ste) (h : AtT w g 0 u) : AtT (put8z w g v) g 0 v := put8_at w g 0 u v h
theorem put8z_chg (w : World) (g : Nat) (v : Ste) : Chg (fun b => b = g) w (put8z w g v) := (put8_kept w g 0 v).chg1 rfl
abbrev sbox0 (x : Int) : Obj := .cells #[.int .i64 x, .int .i64 0, .int .i64 0, .int .i64 0, .int .i64 0, .int .i64 0, .int .i64 0, .float .f64 0] 80
theorem stb_new (w : World) (x : Int) : StB (w.alloc (sbox0 x)) w.heap.size x [0, 0, 0, 0, 0, 0] 0 where
  len := rfl
  c0 := by go_simp
  cf := fun i hi => by
    rw [World.cell?_alloc_new]
    rcases (by omega : i = 0 ∨ i = 1 ∨ i = 2 ∨ i = 3 ∨ i = 4 ∨ i = 5) with rfl | rfl | rfl | rfl | rfl | rfl <;> rfl
  c7 := by go_simp
  fr := fun o => by simp
  lt := by simp
abbrev fbox (A : Nat) : Obj := .cells #[.pointer (some ⟨A, 1, none⟩), .pointer (some ⟨A, 2, none⟩), .pointer (some ⟨A, 3, none⟩), .pointer (some ⟨A, 4, none⟩), .pointer (some ⟨A, 5, none⟩), .pointer (some ⟨A, 6, none⟩)] 138
theorem fbox_at (w : World) (A : Nat) {i : Nat} (hi : i < 6) : (w.alloc (fbox A)).cell? ⟨w.heap.size, i, none⟩ = some (.pointer (some ⟨A, i + 1, none⟩)) := by
  rw [World.cell?_alloc_new]
  rcases (by omega : i = 0 ∨ i = 1 ∨ i = 2 ∨ i = 3 ∨ i = 4 ∨ i = 5) with rfl | rfl | rfl | rfl | rfl | rfl <;> rfl
set_option maxRecDepth 100000 in
set_option maxHeartbeats 4000000 in
theorem step_s (W : World) (hi R : Nat) (bs : List Int) (s : Option Nat) (f : RdS W hi R bs s) (hB : Bts bs) :
    Calls Try.prog 72 #[.pointer (some ⟨R, 0, none⟩)] W fun e w' => ∃ x : Ste, e = .returned x.agg ∧ x.k < 18446744073709551616 ∧ RdS w' hi R bs (nextS bs s) ∧ (∀ p, s = some p → p + steLn bs p ≤ bs.length → x = steAt bs p) ∧ Chg (fun b => b = R) W w' := by
  have k0 := kept_alloc 0 0 W (sbox0 0)
  have HRW : Hid (R < W.heap.size ∧ hi ≤ R) := f.lt
  have HF : Hid _ := f.keepC (k0.chg (S := fun _ => False)) (fun _ _ h => h) (fun h => h)
  have HK : Hid (Chg (fun b => b = R) W (W.alloc (sbox0 0))) := k0.chg
  have HA : Hid _ := stb_new W 0
  have HB : Hid _ := hB
  clear f k0 hB
  go_enter Try.func72, Try.ntmps72
  go_wp2_with fail
  generalize W.alloc (sbox0 0) = w1 at HF HK HA ⊢
  generalize hA : W.heap.size = A at HA HRW ⊢
  have HWA : Hid _ := hA
  clear hA
  refine Calls.mono (number_s w1 hi R bs s 1 HF.out HB.out (by decide) (by decide)) ?_
  rintro e w2 ⟨x, rfl, b2, s2, v2, d2⟩
  have hx : 0 ≤ x ∧ x < 256 := by simpa using b2
  have HS2 : Hid _ := s2
  have HV2 : Hid _ := v2
  have HA2 : Hid _ := HA.out.keepC d2 (by have := HRW.out; omega)
  have HK2 : Hid _ := Chg.andThen HK.out d2
  clear b2 s2 v2 d2 HF HK HA
  go_upto_region 2 with fail
  have k3 := kept_alloc 0 0 w2 (sbox0 x)
  have HS3 : Hid _ := HS2.out.keepC (k3.chg (S := fun _ => False)) (fun _ _ h => h) (fun h => h)
  have HA3 : Hid _ := HA2.out.keepC (k3.chg (S := fun _ => False)) (fun h => h)
  have HB3 : Hid _ := stb_new w2 x
  have HK3 : Hid (Chg (fun b => b = R) W (w2.alloc (sbox0 x))) := Chg.andThen HK2.out k3.chg
  have HZ3 : Hid (A < w2.heap.size ∧ W.heap.size ≤ w2.heap.size) := ⟨HA2.out.lt, HK2.out.size⟩
  clear k3 HS2 HA2 HK2
  generalize w2.alloc (sbox0 x) = w3 at HS3 HA3 HB3 HK3 ⊢
  generalize w2.heap.size = S at HB3 HZ3 ⊢
  go_wp2_with fail
  have k4 := kept_alloc 0 0 w3 (fbox S)
  have HS4 : Hid _ := HS3.out.keepC (k4.chg (S := fun _ => False)) (fun _ _ h => h) (fun h => h)
  have HA4 : Hid _ := HA3.out.keepC (k4.chg (S := fun _ => False)) (fun h => h)
  have HB4 : Hid _ := HB3.out.keepC (k4.chg (S := fun _ => False)) (fun h => h)
  have HF4 : Hid (∀ i, i < 6 → (w3.alloc (fbox S)).cell? ⟨w3.heap.size, i, none⟩ = some (.pointer (some ⟨S, i + 1, none⟩))) := fun i hi => fbox_at w3 S hi
  have HK4 : Hid (Chg (fun b => b = R) W (w3.alloc (fbox S))) := Chg.andThen HK3.out k4.chg
  have HZ4 : Hid (S < w3.heap.size ∧ w3.heap.size < (w3.alloc (fbox S)).heap.size) := ⟨HB3.out.lt, by simp⟩
  clear k4 HS3 HA3 HB3 HK3
  generalize w3.alloc (fbox S) = w4 at HS4 HA4 HB4 HF4 HK4 HZ4 ⊢
  generalize w3.heap.size = F at HF4 HZ4 ⊢
  have HZZ : Hid (R < A ∧ hi ≤ R ∧ A < S ∧ S < F ∧ F < w4.heap.size ∧ W.heap.size = A) := ⟨HRW.out.1, HRW.out.2, HZ3.out.1, HZ4.out.1, HZ4.out.2, HWA.out⟩
  clear HZ4 HZ3 HRW HWA
  go_loopw [18] (fun i W' => ∃ k : Nat, k ≤ 6 ∧ i = .int .i64 k ∧ Hid (RdS W' hi R bs (adv bs.length (1 + 2 * k) s)) ∧ Hid (∃ fs, StB W' S x fs 0 ∧ Fds bs s k fs) ∧ Hid (Chg (fun b => b = R ∨ b = S) w4 W')) (fun i _ => 6 - (intOf i).toNat)
  case atStart => exact ⟨0, Nat.zero_le _, rfl, HS4, ⟨_, HB4.out, fun _ _ _ i hi => by omega⟩, (Kept.refl 0 0 w4).chg⟩
  case round =>
    obtain ⟨k, hk, rfl, hS, hT, hC⟩ := hrel
    clear HS4 HB4
    by_cases hlt : k < 6
    · have cF : wr.cell? ⟨F, k, none⟩ = some (.pointer (some ⟨S, k + 1, none⟩)) := by
        rw [hC.out.cell (p := ⟨F, k, none⟩) HZZ.out.2.2.2.2.1 (by have := HZZ.out; show ¬ (F = R ∨ F = S); omega)]
        exact HF4.out k hlt
      go_wp2_with fail
      refine Calls.mono (count_s wr hi R bs _ hS.out HB.out) ?_
      rintro e w5 ⟨y, rfl, b5, s5, v5, d5⟩
      obtain ⟨fs, hB5, hF5⟩ := hT.out
      have hB6 := hB5.keepC d5 (by have := HZZ.out; show ¬ (S = R); omega)
      have c5 := hB6.cf k hlt
      have fr5 := hB6.fr (k + 1)
      rw [adv_add] at s5
      have kS := chg_setCell (S := fun b => b = S) w5 S (k + 1) (.int .i64 y) rfl
      have R1 : Hid (RdS (w5.setCell ⟨S, k + 1, none⟩ (.int .i64 y)) hi R bs (adv bs.length (1 + 2 * (k + 1)) s)) := by
        have := s5.keepC kS (fun g hg e => by have := HZZ.out; omega) (by have := HZZ.out; show ¬ (R = S); omega)
        rw [show 1 + 2 * (k + 1) = 1 + 2 * k + 2 by omega]
        exact this
      have R2 : Hid (∃ fs, StB (w5.setCell ⟨S, k + 1, none⟩ (.int .i64 y)) S x fs 0 ∧ Fds bs s (k + 1) fs) := ⟨_, hB6.put hlt y, hF5.put hB5.len hlt y (fun p hp hl => v5 p hp hl)⟩
      have R3 : Hid (Chg (fun b => b = R ∨ b = S) w4 (w5.setCell ⟨S, k + 1, none⟩ (.int .i64 y))) := Chg.andThen hC.out (Chg.andThen (d5.mono fun b _ h => .inl h) (kS.mono fun b _ h => .inr h))
      clear b5 s5 v5 d5 hB5 hB6 hF5 kS hS hT hC cF
      go_wp2_with fail
      go_roundw
      case rel => exact ⟨k + 1, by omega, by go_num, R1, R2, R3⟩
      case measure => simp [intOf]; omega
    · obtain rfl : k = 6 := by omega
      obtain ⟨fs, hB5, hF5⟩ := hT.out
      have y0 := hB5.c0
      have HB5 : Hid _ := hB5
      have HF5 : Hid _ := hF5
      have HA5 : Hid _ := HA4.out.keepC hC.out (by have := HZZ.out; show ¬ (A = R ∨ A = S); omega)
      have HK5 : Hid (Chg (fun b => b = R) W wr) := Chg.new HK4.out hC.out (fun i hi h => by have := HZZ.out; omega)
      clear hB5 hF5 hT HA4 HK4 hC
      cases t : (x == 1)
      · have t' : ¬ x = 1 := by simpa using t
        obtain ⟨_, y1, y2, y3, y4, y5, y6, y7⟩ := HB5.out.at_
        simp only [steF] at y1 y2 y3 y4 y5 y6 y7
        obtain ⟨a0, a1, a2, a3, a4, a5, a6, a7⟩ := HA5.out.at_
        simp only [steF] at a0 a1 a2 a3 a4 a5 a6 a7
        have hfr := HA5.out.fr
        have kA := put8z_chg wr A (steF x fs 0)
        have hat := put8z_at wr A _ (steF x fs 0) HA5.out.at_
        have RR : Hid (RdS (put8z wr A (steF x fs 0)) hi R bs (nextS bs s)) := by
          have h := hS.out.keepC kA (fun g hg e => by have := HZZ.out; omega) (by have := HZZ.out; show ¬ (R = A); omega)
          cases s with
          | none => exact h
          | some p =>
            have e : nextS bs (some p) = adv bs.length (1 + 2 * 6) (some p) := by
              show adv bs.length (steLn bs p) (some p) = _
              by_cases hp : p + 13 ≤ bs.length
              · have hx1 := HV2.out p rfl (by omega)
                unfold steLn
                rw [← hx1, if_neg t']
              · have h13 : 13 ≤ steLn bs p := by unfold steLn; split <;> omega
                simp only [adv]
                rw [if_neg (by omega), if_neg (by omega)]
            rw [e]
            exact h
        have RV : Hid (∀ p, s = some p → p + steLn bs p ≤ bs.length → steF x fs 0 = steAt bs p) := fun p hp hl => by
          have h13 : 13 ≤ steLn bs p := by unfold steLn; split <;> omega
          have hx1 := HV2.out p hp (by omega)
          have hf := HF5.out p hp (by omega)
          unfold steF steAt
          rw [← hx1, if_neg t', hf 0 (by omega), hf 1 (by omega), hf 2 (by omega), hf 3 (by omega), hf 4 (by omega), hf 5 (by omega)]
        have RK : Hid (Chg (fun b => b = R) W (put8z wr A (steF x fs 0))) := Chg.new HK5.out kA (fun i hi e => by have := HZZ.out; omega)
        have HAT : Hid _ := hat
        clear kA hat HB5 HA5 HF5 HK5 hS t'
        go_wp2_with fail
        obtain ⟨z0, z1, z2, z3, z4, z5, z6, z7⟩ := HAT.out
        simp only [steF, List.getD_eq_getElem?_getD, Nat.zero_add] at z0 z1 z2 z3 z4 z5 z6 z7
        refine bodyPost_ret (v := (steF x fs 0).agg) (by simp [results, Try.results72, go_sem, z0, z1, z2, z3, z4, z5, z6, z7, steF]) rfl ⟨steF x fs 0, rfl, ?_, RR.out, RV.out, RK.out⟩
        show (0 : Nat) < _
        decide
      · have t' : x = 1 := by simpa using t
        go_wp2_with fail
        refine Calls.mono (number_s wr hi R bs _ 8 hS.out HB.out (by decide) (by decide)) ?_
        rintro e w6 ⟨q, rfl, b6, s6, v6, d6⟩
        rw [adv_add] at s6
        have hq : 0 ≤ q ∧ q < 18446744073709551616 := by simpa using b6
        have HS6 : Hid _ := s6
        have HV6 : Hid _ := v6
        have HB6 : Hid _ := HB5.out.keepC d6 (by have := HZZ.out; show ¬ (S = R); omega)
        have HA6 : Hid _ := HA5.out.keepC d6 (by have := HZZ.out; show ¬ (A = R); omega)
        have HK6 : Hid _ := Chg.andThen HK5.out d6
        clear b6 s6 v6 d6 HB5 HA5 HK5 hS y0
        go_wp2_with fail
        refine Calls.mono (implFrom q w6) ?_
        rintro e w7 ⟨rfl, rfl⟩
        have y7 := HB6.out.c7
        have fr7 := HB6.out.fr 7
        have kS := chg_setCell (S := fun b => b = S) w7 S 7 (.float .f64 q.toNat) rfl
        have HS8 : Hid _ := HS6.out.keepC kS (fun g hg e => by have := HZZ.out; omega) (by have := HZZ.out; show ¬ (R = S); omega)
        have HB8 : Hid _ := HB6.out.put7 q.toNat
        have HA8 : Hid _ := HA6.out.keepC kS (by have := HZZ.out; show ¬ (A = S); omega)
        have HK8 : Hid _ := Chg.new HK6.out kS (fun i hi e => by have := HZZ.out; omega)
        clear kS HS6 HB6 HA6 HK6
        go_upto_region 9 with fail
        clear y7 fr7
        generalize w7.setCell ⟨S, 7, none⟩ (.float .f64 q.toNat) = w8 at HS8 HB8 HA8 HK8 ⊢
        obtain ⟨z, hz⟩ : ∃ z, z = q.toNat := ⟨_, rfl⟩
        rw [← hz] at HB8
        have HZQ : Hid _ := hz
        have hzl : z < 18446744073709551616 := by omega
        have HZL : Hid _ := hzl
        clear hz hzl
        obtain ⟨y0, y1, y2, y3, y4, y5, y6, y7⟩ := HB8.out.at_
        simp only [steF] at y0 y1 y2 y3 y4 y5 y6 y7
        obtain ⟨a0, a1, a2, a3, a4, a5, a6, a7⟩ := HA8.out.at_
        simp only [steF] at a0 a1 a2 a3 a4 a5 a6 a7
        have hfr := HA8.out.fr
        have kA := put8z_chg w8 A (steF x fs z)
        have hat := put8z_at w8 A _ (steF x fs z) HA8.out.at_
        have RR : Hid (RdS (put8z w8 A (steF x fs z)) hi R bs (nextS bs s)) := by
          have h := HS8.out.keepC kA (fun g hg e => by have := HZZ.out; omega) (by have := HZZ.out; show ¬ (R = A); omega)
          cases s with
          | none => exact h
          | some p =>
            have e : nextS bs (some p) = adv bs.length (1 + 2 * 6 + 8) (some p) := by
              show adv bs.length (steLn bs p) (some p) = _
              by_cases hp : p + 13 ≤ bs.length
              · have hx1 := HV2.out p rfl (by omega)
                unfold steLn
                rw [← hx1, if_pos t']
              · have h13 : 13 ≤ steLn bs p := by unfold steLn; split <;> omega
                simp only [adv]
                rw [if_neg (by omega), if_neg (by omega)]
            rw [e]
            exact h
        have RV : Hid (∀ p, s = some p → p + steLn bs p ≤ bs.length → steF x fs z = steAt bs p) := fun p hp hl => by
          have h13 : 13 ≤ steLn bs p := by unfold steLn; split <;> omega
          have hx1 := HV2.out p hp (by omega)
          have h21 : steLn bs p = 21 := by unfold steLn; rw [← hx1, if_pos t']
          have hf := HF5.out p hp (by omega)
          have hq2 := HV6.out (p + (1 + 2 * 6)) (by subst hp; simp only [adv]; rw [if_pos (by omega)]) (by omega)
          unfold steF steAt
          rw [← hx1, if_pos t', hf 0 (by omega), hf 1 (by omega), hf 2 (by omega), hf 3 (by omega), hf 4 (by omega), hf 5 (by omega), HZQ.out, hq2]
        have RK : Hid (Chg (fun b => b = R) W (put8z w8 A (steF x fs z))) := Chg.new HK8.out kA (fun i hi e => by have := HZZ.out; omega)
        have HAT : Hid _ := hat
        clear kA hat HB8 HA8 HF5 HK8 HS8 t'
        go_wp2_with fail
        obtain ⟨z0, z1, z2, z3, z4, z5, z6, z7⟩ := HAT.out
        simp only [steF, List.getD_eq_getElem?_getD, Nat.zero_add] at z0 z1 z2 z3 z4 z5 z6 z7
        refine bodyPost_ret (v := (steF x fs z).agg) (by simp [results, Try.results72, go_sem, z0, z1, z2, z3, z4, z5, z6, z7, steF]) rfl ⟨steF x fs z, rfl, ?_, RR.out, RV.out, RK.out⟩
        exact HZL.out
end Go.Proofs.Ytdkjdlimcnddkaa
