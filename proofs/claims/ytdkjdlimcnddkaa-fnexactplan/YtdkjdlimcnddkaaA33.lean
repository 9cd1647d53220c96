import Derived.Test.YtdkjdlimcnddkaaA32
import Derived.Laws.BytesArg
import Derived.Lib.Bytes
import Derived.Shelf.Bytes.SlSmallAll
namespace Go.Proofs.Ytdkjdlimcnddkaa
open Go.RowKit Flt
attribute [local go_sem] alloc_drewN setCell_drewN run_store_float

/-- A reading, k times. -/
def itS (f : Option Nat → Option Nat) : Nat → Option Nat → Option Nat
  | 0, s => s
  | k + 1, s => f (itS f k s)
theorem itS_none {f : Option Nat → Option Nat} (hf : f none = none) : ∀ k, itS f k none = none
  | 0 => rfl
  | k + 1 => by rw [itS, itS_none hf k, hf]
theorem itS_stay {f : Option Nat → Option Nat} (hf : f none = none) {k : Nat} {s : Option Nat} (h : itS f k s = none) : ∀ j, itS f (k + j) s = none
  | 0 => h
  | j + 1 => by rw [← Nat.add_assoc, itS, itS_stay hf h j, hf]
theorem itS_add (f : Option Nat → Option Nat) (s : Option Nat) (a : Nat) : ∀ b, itS f (a + b) s = itS f b (itS f a s)
  | 0 => rfl
  | b + 1 => by rw [← Nat.add_assoc, itS, itS_add f s a b]; rfl
/-- The state behind a counted list. -/
def endS (bs : List Int) (f : Option Nat → Option Nat) : Option Nat → Option Nat
  | none => none
  | some p => if p + 2 ≤ bs.length then itS f (numAt bs p 2).toNat (some (p + 2)) else none
theorem end_eq {bs : List Int} {f : Option Nat → Option Nat} (hf : f none = none) {s : Option Nat} {x : Int} {X k : Nat} (hX : X = x.toNat) (hx : ∀ p, s = some p → p + 2 ≤ bs.length → x = numAt bs p 2) (hk : k ≤ X) (h : k = X ∨ itS f k (adv bs.length 2 s) = none) : itS f k (adv bs.length 2 s) = endS bs f s := by
  cases s with
  | none => rw [show adv bs.length 2 none = none from rfl, itS_none hf]; rfl
  | some p =>
    unfold endS
    simp only [adv] at h ⊢
    by_cases hp : p + 2 ≤ bs.length
    · rw [if_pos hp] at h ⊢
      rw [if_pos hp, ← hx p rfl hp, ← hX]
      rcases h with h | h
      · rw [h]
      · have := itS_stay hf h (X - k)
        rw [show k + (X - k) = X by omega] at this
        rw [h, this]
    · rw [if_neg hp]
      rw [if_neg hp, itS_none hf]
theorem adv_it (n c p : Nat) : ∀ k, itS (adv n c) k (some p) = if k = 0 ∨ p + c * k ≤ n then some (p + c * k) else none
  | 0 => by simp [itS]
  | k + 1 => by
    rw [itS, adv_it n c p k]
    have e : c * (k + 1) = c * k + c := Nat.mul_succ c k
    by_cases h : k = 0 ∨ p + c * k ≤ n
    · rw [if_pos h]
      simp only [adv]
      by_cases h2 : p + c * k + c ≤ n
      · rw [if_pos h2, if_pos (.inr (by omega)), e, Nat.add_assoc]
      · rw [if_neg h2, if_neg (by omega)]
    · rw [if_neg h, if_neg (by omega)]; rfl
theorem next_it (bs : List Int) (p : Nat) : ∀ k, itS (nextS bs) k (some p) = if k = 0 ∨ posTo bs p k ≤ bs.length then some (posTo bs p k) else none
  | 0 => by simp [itS, posTo]
  | k + 1 => by
    rw [itS, next_it bs p k]
    by_cases h : k = 0 ∨ posTo bs p k ≤ bs.length
    · rw [if_pos h]
      show adv bs.length (steLn bs (posTo bs p k)) (some (posTo bs p k)) = _
      simp only [adv]
      rw [show posTo bs p (k + 1) = posTo bs p k + steLn bs (posTo bs p k) from rfl]
      by_cases h2 : posTo bs p k + steLn bs (posTo bs p k) ≤ bs.length
      · rw [if_pos h2, if_pos (.inr h2)]
      · rw [if_neg h2, if_neg (by omega)]
    · rw [if_neg h]
      rw [show posTo bs p (k + 1) = posTo bs p k + steLn bs (posTo bs p k) from rfl, if_neg (by omega)]; rfl
theorem it_pos {n c p k q : Nat} (h : itS (adv n c) k (some p) = some q) : q = p + c * k := by
  rw [adv_it] at h
  split at h
  · injection h with h; exact h.symm
  · cases h
theorem it_posN {bs : List Int} {p k q : Nat} (h : itS (nextS bs) k (some p) = some q) : q = posTo bs p k := by
  rw [next_it] at h
  split at h
  · injection h with h; exact h.symm
  · cases h
theorem next_fit {bs : List Int} {p q : Nat} (h : nextS bs (some p) = some q) : p + steLn bs p ≤ bs.length := by
  obtain ⟨p', e, _, h2⟩ := adv_some (s := some p) (n := bs.length) (k := steLn bs p) h
  cases e; exact h2
theorem adv_fit {n c p q : Nat} (h : adv n c (some p) = some q) : p + c ≤ n := by
  obtain ⟨p', e, _, h2⟩ := adv_some h
  cases e; exact h2
theorem newsI1 (w : World) (x : Int) : ∀ j u, ([x].map (Value.int .i64))[j]? = some u → (w.alloc (.cells #[.int .i64 x] 3)).cell? ((⟨w.heap.size, 0, none⟩ : Addr).add j) = some u :=
  World.news_of_block (w := w.alloc (.cells #[.int .i64 x] 3)) (t := 3) (fr := (0, 0)) (cs := #[.int .i64 x]) (heap_new w _)
theorem oneI1 (x : Int) : ∀ u ∈ [x].map (Value.int .i64), u.oneCell' = true := by
  intro u hu
  simp at hu
  subst hu; rfl
set_option maxRecDepth 100000 in
set_option maxHeartbeats 4000000 in
theorem counted_i (W : World) (hi R : Nat) (bs : List Int) (s : Option Nat) (f : RdS W hi R bs s) (hB : Bts bs) :
    Calls Try.prog 69 #[.pointer (some ⟨R, 0, none⟩), .func (.func 70) #[.pointer (some ⟨R, 0, none⟩)] #[]] W fun e w' => ∃ v, ∃ xs : List Int, e = .returned v ∧ w'.ownsRow W.heap.size 3 1 v xs.length (List.map (Value.int .i64) xs) ∧ RdS w' hi R bs (endS bs (adv bs.length 2) s) ∧ (∀ p q, s = some p → endS bs (adv bs.length 2) s = some q → xs = cntsAt bs (p + 2) (numAt bs p 2).toNat) ∧ Chg (fun b => b = R) W w' := by
  obtain ⟨i0, hii, hz0, hz1, hz2⟩ := info_parts infoI
  have HB : Hid _ := hB
  have HZ : Hid (R < W.heap.size ∧ hi ≤ R) := f.lt
  have HN : Hid _ := count_s W hi R bs s f hB
  have hf0 : ((adv bs.length 2) : Option Nat → Option Nat) none = none := rfl
  have HF0 : Hid _ := hf0
  clear f hB hf0
  go_enter Try.func69, Try.ntmps69
  go_wp2_with fail
  refine Calls.mono HN.out ?_
  rintro e w2 ⟨x, rfl, b2, s2, v2, d2⟩
  obtain ⟨X, hX⟩ : ∃ X : Nat, x = X := ⟨x.toNat, by omega⟩
  have HX : Hid (X = x.toNat) := by show _ = _; omega
  have HV2 : Hid _ := v2
  have HS2 : Hid _ := s2
  have HK2 : Hid _ := d2
  have HE : Hid (∀ k, k ≤ X → (k = X ∨ itS (adv bs.length 2) k (adv bs.length 2 s) = none) → itS (adv bs.length 2) k (adv bs.length 2 s) = endS bs (adv bs.length 2) s) := fun k h1 h2 => end_eq HF0.out HX.out HV2.out h1 h2
  have hXl : X < 65536 := by omega
  clear s2 v2 d2 HN b2
  subst hX
  go_wp2_with fail
  go_loopw [5, 8] (fun u i W' => ∃ k : Nat, k ≤ X ∧ i = .int .i64 k ∧ Hid (RdS W' hi R bs (itS (adv bs.length 2) k (adv bs.length 2 s))) ∧ Hid (∃ xs : List Int, xs.length ≤ k ∧ W'.ownsRow W.heap.size 3 1 u xs.length (List.map (Value.int .i64) xs) ∧ (∀ p q, s = some p → itS (adv bs.length 2) k (adv bs.length 2 s) = some q → xs = cntsAt bs (p + 2) k)) ∧ Hid (Chg (fun b => b = R) W W')) (fun _ i _ => X - (intOf i).toNat)
  case atStart => exact ⟨0, Nat.zero_le _, rfl, HS2, ⟨[], Nat.le_refl _, World.ownsRow_nil _ _ _ _, fun _ _ _ _ => rfl⟩, HK2⟩
  case round =>
    obtain ⟨k, hk, rfl, hS, hT, hC⟩ := hrel
    by_cases hlt : k < X
    · have csh := hS.out.short
      cases hst : itS (adv bs.length 2) k (adv bs.length 2 s) with
      | none =>
        rw [hst] at csh
        have hbr : (none : Option Nat).isNone = true := rfl
        rw [hbr] at csh
        have he := HE.out k (by omega) (.inr hst)
        rw [hst] at hS
        obtain ⟨xs, _, hown, _⟩ := hT.out
        have R1 : Hid (∃ xs : List Int, wr.ownsRow W.heap.size 3 1 u5 xs.length (List.map (Value.int .i64) xs) ∧ RdS wr hi R bs (endS bs (adv bs.length 2) s) ∧ (∀ p q, s = some p → endS bs (adv bs.length 2) s = some q → xs = cntsAt bs (p + 2) (numAt bs p 2).toNat)) := by
          refine ⟨xs, hown, by rw [← he, hst]; exact hS.out, fun p q _ h => ?_⟩
          rw [← he, hst] at h; cases h
        clear hown he hst hbr hS hT
        go_wp2_with fail
        go_ret
        obtain ⟨xs, r1, r2⟩ := R1.out
        exact ⟨_, xs, rfl, r1, r2.1, r2.2, hC.out⟩
      | some q =>
        rw [hst] at csh
        have hbr : (some q : Option Nat).isNone = false := rfl
        rw [hbr] at csh
        rw [hst] at hS
        have HST : Hid _ := hst
        clear hst hbr
        go_wp2_with fail
        refine Calls.mono (count_s wr hi R bs _ hS.out HB.out) ?_
        rintro e w5 ⟨y, rfl, _, s5, v5, d5⟩
        obtain ⟨xs, hxl, hown, hxs⟩ := hT.out
        have hzz := HZ.out
        have hown5 := own_keepC hown d5 (fun g hg e => by have := (own_blkV hown hg).1; omega)
        have HO5 : Hid _ := hown5
        have HS5 : Hid _ := s5
        have HV5 : Hid _ := v5
        have HC5 : Hid _ := Chg.andThen hC.out d5
        have HXS : Hid _ := hxs
        have HBK : Hid (∀ g, u5.ownBlock = some g → W.heap.size ≤ g) := fun g hg => (own_blkV hown hg).1
        have HW5 : Hid (W.heap.size ≤ w5.heap.size) := HC5.out.size
        clear hown hown5 s5 v5 d5 hxs hS hC hT
        go_wp2_with (first | (at_builtin; (refine wpList_append_lies _ rfl _ _ 22 rfl W.heap.size 3 i0 (.int .i64 0) 1 8 Try.underlying22 hii hz0 hz1 hz2 rfl (by decide) _ _ (List.map (Value.int .i64) xs) rfl (own_keepJ HO5.out (kept_alloc 0 0 w5 _)) ⟨w5.heap.size, 0, none⟩ 1 1 ([y].map (Value.int .i64)) rfl rfl (newsI1 w5 y) (oneI1 y) (by decide) (by unfold maxLen; omega) (by omega) (by have := HW5.out; simp; omega) _ rfl ?_)) | fail)
        intro g9 cap9 w9 hown9 hg9 _ _
        have c9 := chg_grow hg9
        have ka := kept_alloc 0 0 w5 (.cells #[.int .i64 y] 3)
        have R1 : Hid (RdS w9 hi R bs (itS (adv bs.length 2) (k + 1) (adv bs.length 2 s))) := by
          have h := (HS5.out.keepC (ka.chg (S := fun _ => False)) (fun _ _ h => h) (fun h => h)).keepC c9 (fun g hg e => by have := HBK.out g e; omega) (fun e => by have := HBK.out R e; omega)
          rw [itS, HST.out]
          exact h
        have R2 : Hid (∀ n9, n9 = xs.length + 1 → ∃ xs : List Int, xs.length ≤ k + 1 ∧ w9.ownsRow W.heap.size 3 1 (.slice (some ⟨g9, 0, none⟩) n9 cap9) xs.length (List.map (Value.int .i64) xs) ∧ (∀ p q, s = some p → itS (adv bs.length 2) (k + 1) (adv bs.length 2 s) = some q → xs = cntsAt bs (p + 2) (k + 1))) := by
          intro n9 hn9
          refine ⟨xs ++ [y], by simp; omega, ?_, fun p q' hp h => ?_⟩
          · rw [List.map_append, List.length_append, hn9]
            exact hown9
          · rw [itS, HST.out] at h
            have hq := HST.out
            have hx2 := HXS.out p q hp hq
            have hp2 : p + 2 ≤ bs.length := by
              subst hp
              by_cases c : p + 2 ≤ bs.length
              · exact c
              · simp only [adv] at hq
                rw [if_neg c, itS_none HF0.out] at hq; cases hq
            have hqp : q = p + 2 + 2 * k := by
              subst hp
              simp only [adv] at hq
              rw [if_pos hp2] at hq
              exact it_pos hq
            rw [cntsAt_succ, hx2, HV5.out q rfl (adv_fit h), hqp]
        have R3 : Hid (Chg (fun b => b = R) W w9) := Chg.new (Chg.andThen HC5.out ka.chg) c9 (fun i hi e => by have := HBK.out i e; omega)
        obtain ⟨n9, hn9⟩ : ∃ n9, n9 = xs.length + 1 := ⟨_, rfl⟩
        rw [← hn9]
        have HN9 : Hid _ := hn9
        clear c9 ka hown9 hg9 HO5 HS5 HV5 HC5 HXS hn9
        go_wp2_with fail
        go_roundw
        case rel => exact ⟨k + 1, by omega, by go_num, R1, R2.out n9 HN9.out, R3⟩
        case measure => simp [intOf]; omega
    · obtain rfl : k = X := by omega
      have he := HE.out k (Nat.le_refl _) (.inl rfl)
      obtain ⟨xs, _, hown, hxs⟩ := hT.out
      have R1 : Hid (∃ xs : List Int, wr.ownsRow W.heap.size 3 1 u5 xs.length (List.map (Value.int .i64) xs) ∧ RdS wr hi R bs (endS bs (adv bs.length 2) s) ∧ (∀ p q, s = some p → endS bs (adv bs.length 2) s = some q → xs = cntsAt bs (p + 2) (numAt bs p 2).toNat)) := by
        refine ⟨xs, hown, by rw [← he]; exact hS.out, fun p q hp h => ?_⟩
        rw [← he] at h
        have hp2 : p + 2 ≤ bs.length := by
          subst hp
          by_cases c : p + 2 ≤ bs.length
          · exact c
          · simp only [adv] at h
            rw [if_neg c, itS_none HF0.out] at h; cases h
        rw [hxs p q hp h, ← HV2.out p hp hp2]
        rfl
      clear hown he hS hT hxs
      go_wp2_with fail
      go_ret
      obtain ⟨xs, r1, r2⟩ := R1.out
      exact ⟨_, xs, rfl, r1, r2.1, r2.2, hC.out⟩
set_option maxRecDepth 100000 in
set_option maxHeartbeats 4000000 in
theorem counted_t (W : World) (hi R : Nat) (bs : List Int) (s : Option Nat) (f : RdS W hi R bs s) (hB : Bts bs) :
    Calls Try.prog 71 #[.pointer (some ⟨R, 0, none⟩), .func (.func 72) #[.pointer (some ⟨R, 0, none⟩)] #[]] W fun e w' => ∃ v, ∃ xs : List Ste, e = .returned v ∧ w'.ownsRow W.heap.size 80 8 v xs.length (flatT xs) ∧ (∀ v ∈ xs, v.k < 18446744073709551616) ∧ RdS w' hi R bs (endS bs (nextS bs) s) ∧ (∀ p q, s = some p → endS bs (nextS bs) s = some q → xs = stesAt bs (p + 2) (numAt bs p 2).toNat) ∧ Chg (fun b => b = R) W w' := by
  obtain ⟨i0, hii, hz0, hz1, hz2⟩ := info_parts infoSte
  have HB : Hid _ := hB
  have HZ : Hid (R < W.heap.size ∧ hi ≤ R) := f.lt
  have HN : Hid _ := count_s W hi R bs s f hB
  have hf0 : ((nextS bs) : Option Nat → Option Nat) none = none := rfl
  have HF0 : Hid _ := hf0
  clear f hB hf0
  go_enter Try.func71, Try.ntmps71
  go_wp2_with fail
  refine Calls.mono HN.out ?_
  rintro e w2 ⟨x, rfl, b2, s2, v2, d2⟩
  obtain ⟨X, hX⟩ : ∃ X : Nat, x = X := ⟨x.toNat, by omega⟩
  have HX : Hid (X = x.toNat) := by show _ = _; omega
  have HV2 : Hid _ := v2
  have HS2 : Hid _ := s2
  have HK2 : Hid _ := d2
  have HE : Hid (∀ k, k ≤ X → (k = X ∨ itS (nextS bs) k (adv bs.length 2 s) = none) → itS (nextS bs) k (adv bs.length 2 s) = endS bs (nextS bs) s) := fun k h1 h2 => end_eq HF0.out HX.out HV2.out h1 h2
  have hXl : X < 65536 := by omega
  clear s2 v2 d2 HN b2
  subst hX
  go_wp2_with fail
  go_loopw [5, 8] (fun u i W' => ∃ k : Nat, k ≤ X ∧ i = .int .i64 k ∧ Hid (RdS W' hi R bs (itS (nextS bs) k (adv bs.length 2 s))) ∧ Hid (∃ xs : List Ste, xs.length ≤ k ∧ W'.ownsRow W.heap.size 80 8 u xs.length (flatT xs) ∧ (∀ v ∈ xs, v.k < 18446744073709551616) ∧ (∀ p q, s = some p → itS (nextS bs) k (adv bs.length 2 s) = some q → xs = stesAt bs (p + 2) k)) ∧ Hid (Chg (fun b => b = R) W W')) (fun _ i _ => X - (intOf i).toNat)
  case atStart => exact ⟨0, Nat.zero_le _, rfl, HS2, ⟨[], Nat.le_refl _, World.ownsRow_nil _ _ _ _, (by simp), fun _ _ _ _ => rfl⟩, HK2⟩
  case round =>
    obtain ⟨k, hk, rfl, hS, hT, hC⟩ := hrel
    by_cases hlt : k < X
    · have csh := hS.out.short
      cases hst : itS (nextS bs) k (adv bs.length 2 s) with
      | none =>
        rw [hst] at csh
        have hbr : (none : Option Nat).isNone = true := rfl
        rw [hbr] at csh
        have he := HE.out k (by omega) (.inr hst)
        rw [hst] at hS
        obtain ⟨xs, _, hown, hkx, _⟩ := hT.out
        have R1 : Hid (∃ xs : List Ste, wr.ownsRow W.heap.size 80 8 u5 xs.length (flatT xs) ∧ (∀ v ∈ xs, v.k < 18446744073709551616) ∧ RdS wr hi R bs (endS bs (nextS bs) s) ∧ (∀ p q, s = some p → endS bs (nextS bs) s = some q → xs = stesAt bs (p + 2) (numAt bs p 2).toNat)) := by
          refine ⟨xs, hown, hkx, by rw [← he, hst]; exact hS.out, fun p q _ h => ?_⟩
          rw [← he, hst] at h; cases h
        clear hown he hst hbr hS hT
        go_wp2_with fail
        go_ret
        obtain ⟨xs, r1, r2⟩ := R1.out
        exact ⟨_, xs, rfl, r1, r2.1, r2.2.1, r2.2.2, hC.out⟩
      | some q =>
        rw [hst] at csh
        have hbr : (some q : Option Nat).isNone = false := rfl
        rw [hbr] at csh
        rw [hst] at hS
        have HST : Hid _ := hst
        clear hst hbr
        go_wp2_with fail
        refine Calls.mono (step_s wr hi R bs _ hS.out HB.out) ?_
        rintro e w5 ⟨y, rfl, ylt, s5, v5, d5⟩
        obtain ⟨xs, hxl, hown, hkx, hxs⟩ := hT.out
        have hzz := HZ.out
        have HKX : Hid _ := hkx
        have HYL : Hid _ := ylt
        clear hkx ylt
        have hown5 := own_keepC hown d5 (fun g hg e => by have := (own_blkV hown hg).1; omega)
        have HO5 : Hid _ := hown5
        have HS5 : Hid _ := s5
        have HV5 : Hid _ := v5
        have HC5 : Hid _ := Chg.andThen hC.out d5
        have HXS : Hid _ := hxs
        have HBK : Hid (∀ g, u5.ownBlock = some g → W.heap.size ≤ g) := fun g hg => (own_blkV hown hg).1
        have HW5 : Hid (W.heap.size ≤ w5.heap.size) := HC5.out.size
        clear hown hown5 s5 v5 d5 hxs hS hC hT
        go_wp2_with (first | (at_builtin; (refine wpList_append_lies _ rfl _ _ 36 rfl W.heap.size 80 i0 Ste.zero.agg 8 64 Try.underlying36 hii hz0 hz1 hz2 rfl (by decide) _ _ (flatT xs) rfl (own_keepJ HO5.out (kept_alloc 0 0 w5 _)) ⟨w5.heap.size, 0, none⟩ 1 1 (y.cells) rfl rfl (news8 w5 y 0) (one8 y) (by decide) (by unfold maxLen; omega) (by omega) (by have := HW5.out; simp; omega) _ rfl ?_)) | fail)
        intro g9 cap9 w9 hown9 hg9 _ _
        have c9 := chg_grow hg9
        have ka := kept_alloc 0 0 w5 (y.box)
        have R1 : Hid (RdS w9 hi R bs (itS (nextS bs) (k + 1) (adv bs.length 2 s))) := by
          have h := (HS5.out.keepC (ka.chg (S := fun _ => False)) (fun _ _ h => h) (fun h => h)).keepC c9 (fun g hg e => by have := HBK.out g e; omega) (fun e => by have := HBK.out R e; omega)
          rw [itS, HST.out]
          exact h
        have R2 : Hid (∀ n9, n9 = xs.length + 1 → ∃ xs : List Ste, xs.length ≤ k + 1 ∧ w9.ownsRow W.heap.size 80 8 (.slice (some ⟨g9, 0, none⟩) n9 cap9) xs.length (flatT xs) ∧ (∀ v ∈ xs, v.k < 18446744073709551616) ∧ (∀ p q, s = some p → itS (nextS bs) (k + 1) (adv bs.length 2 s) = some q → xs = stesAt bs (p + 2) (k + 1))) := by
          intro n9 hn9
          refine ⟨xs ++ [y], by simp; omega, ?_, (fun v hv => by rcases List.mem_append.1 hv with h | h; exact HKX.out v h; simp at h; subst h; exact HYL.out), fun p q' hp h => ?_⟩
          · rw [flatT_append, flatT_one, List.length_append, hn9]
            exact hown9
          · rw [itS, HST.out] at h
            have hq := HST.out
            have hx2 := HXS.out p q hp hq
            have hp2 : p + 2 ≤ bs.length := by
              subst hp
              by_cases c : p + 2 ≤ bs.length
              · exact c
              · simp only [adv] at hq
                rw [if_neg c, itS_none HF0.out] at hq; cases hq
            have hqp : q = posTo bs (p + 2) k := by
              subst hp
              simp only [adv] at hq
              rw [if_pos hp2] at hq
              exact it_posN hq
            rw [stesAt_succ, hx2, HV5.out q rfl (next_fit h), hqp]
        have R3 : Hid (Chg (fun b => b = R) W w9) := Chg.new (Chg.andThen HC5.out ka.chg) c9 (fun i hi e => by have := HBK.out i e; omega)
        obtain ⟨n9, hn9⟩ : ∃ n9, n9 = xs.length + 1 := ⟨_, rfl⟩
        rw [← hn9]
        have HN9 : Hid _ := hn9
        clear c9 ka hown9 hg9 HO5 HS5 HV5 HC5 HXS hn9
        go_wp2_with fail
        go_roundw
        case rel => exact ⟨k + 1, by omega, by go_num, R1, R2.out n9 HN9.out, R3⟩
        case measure => simp [intOf]; omega
    · obtain rfl : k = X := by omega
      have he := HE.out k (Nat.le_refl _) (.inl rfl)
      obtain ⟨xs, _, hown, hkx, hxs⟩ := hT.out
      have R1 : Hid (∃ xs : List Ste, wr.ownsRow W.heap.size 80 8 u5 xs.length (flatT xs) ∧ (∀ v ∈ xs, v.k < 18446744073709551616) ∧ RdS wr hi R bs (endS bs (nextS bs) s) ∧ (∀ p q, s = some p → endS bs (nextS bs) s = some q → xs = stesAt bs (p + 2) (numAt bs p 2).toNat)) := by
        refine ⟨xs, hown, hkx, by rw [← he]; exact hS.out, fun p q hp h => ?_⟩
        rw [← he] at h
        have hp2 : p + 2 ≤ bs.length := by
          subst hp
          by_cases c : p + 2 ≤ bs.length
          · exact c
          · simp only [adv] at h
            rw [if_neg c, itS_none HF0.out] at h; cases h
        rw [hxs p q hp h, ← HV2.out p hp hp2]
        rfl
      clear hown he hS hT hxs
      go_wp2_with fail
      go_ret
      obtain ⟨xs, r1, r2⟩ := R1.out
      exact ⟨_, xs, rfl, r1, r2.1, r2.2.1, r2.2.2, hC.out⟩
set_option maxRecDepth 100000 in
set_option maxHeartbeats 4000000 in
theorem counted_p (W : World) (hi R : Nat) (bs : List Int) (s : Option Nat) (f : RdS W hi R bs s) (hB : Bts bs) :
    Calls Try.prog 73 #[.pointer (some ⟨R, 0, none⟩), .func (.func 74) #[.pointer (some ⟨R, 0, none⟩)] #[]] W fun e w' => ∃ v, ∃ xs : List Spn, e = .returned v ∧ w'.ownsRow W.heap.size 83 2 v xs.length (flatP xs) ∧ RdS w' hi R bs (endS bs (adv bs.length 4) s) ∧ (∀ p q, s = some p → endS bs (adv bs.length 4) s = some q → xs = spnsAt bs (p + 2) (numAt bs p 2).toNat) ∧ Chg (fun b => b = R) W w' := by
  obtain ⟨i0, hii, hz0, hz1, hz2⟩ := info_parts infoSpn
  have HB : Hid _ := hB
  have HZ : Hid (R < W.heap.size ∧ hi ≤ R) := f.lt
  have HN : Hid _ := count_s W hi R bs s f hB
  have hf0 : ((adv bs.length 4) : Option Nat → Option Nat) none = none := rfl
  have HF0 : Hid _ := hf0
  clear f hB hf0
  go_enter Try.func73, Try.ntmps73
  go_wp2_with fail
  refine Calls.mono HN.out ?_
  rintro e w2 ⟨x, rfl, b2, s2, v2, d2⟩
  obtain ⟨X, hX⟩ : ∃ X : Nat, x = X := ⟨x.toNat, by omega⟩
  have HX : Hid (X = x.toNat) := by show _ = _; omega
  have HV2 : Hid _ := v2
  have HS2 : Hid _ := s2
  have HK2 : Hid _ := d2
  have HE : Hid (∀ k, k ≤ X → (k = X ∨ itS (adv bs.length 4) k (adv bs.length 2 s) = none) → itS (adv bs.length 4) k (adv bs.length 2 s) = endS bs (adv bs.length 4) s) := fun k h1 h2 => end_eq HF0.out HX.out HV2.out h1 h2
  have hXl : X < 65536 := by omega
  clear s2 v2 d2 HN b2
  subst hX
  go_wp2_with fail
  go_loopw [5, 8] (fun u i W' => ∃ k : Nat, k ≤ X ∧ i = .int .i64 k ∧ Hid (RdS W' hi R bs (itS (adv bs.length 4) k (adv bs.length 2 s))) ∧ Hid (∃ xs : List Spn, xs.length ≤ k ∧ W'.ownsRow W.heap.size 83 2 u xs.length (flatP xs) ∧ (∀ p q, s = some p → itS (adv bs.length 4) k (adv bs.length 2 s) = some q → xs = spnsAt bs (p + 2) k)) ∧ Hid (Chg (fun b => b = R) W W')) (fun _ i _ => X - (intOf i).toNat)
  case atStart => exact ⟨0, Nat.zero_le _, rfl, HS2, ⟨[], Nat.le_refl _, World.ownsRow_nil _ _ _ _, fun _ _ _ _ => rfl⟩, HK2⟩
  case round =>
    obtain ⟨k, hk, rfl, hS, hT, hC⟩ := hrel
    by_cases hlt : k < X
    · have csh := hS.out.short
      cases hst : itS (adv bs.length 4) k (adv bs.length 2 s) with
      | none =>
        rw [hst] at csh
        have hbr : (none : Option Nat).isNone = true := rfl
        rw [hbr] at csh
        have he := HE.out k (by omega) (.inr hst)
        rw [hst] at hS
        obtain ⟨xs, _, hown, _⟩ := hT.out
        have R1 : Hid (∃ xs : List Spn, wr.ownsRow W.heap.size 83 2 u5 xs.length (flatP xs) ∧ RdS wr hi R bs (endS bs (adv bs.length 4) s) ∧ (∀ p q, s = some p → endS bs (adv bs.length 4) s = some q → xs = spnsAt bs (p + 2) (numAt bs p 2).toNat)) := by
          refine ⟨xs, hown, by rw [← he, hst]; exact hS.out, fun p q _ h => ?_⟩
          rw [← he, hst] at h; cases h
        clear hown he hst hbr hS hT
        go_wp2_with fail
        go_ret
        obtain ⟨xs, r1, r2⟩ := R1.out
        exact ⟨_, xs, rfl, r1, r2.1, r2.2, hC.out⟩
      | some q =>
        rw [hst] at csh
        have hbr : (some q : Option Nat).isNone = false := rfl
        rw [hbr] at csh
        rw [hst] at hS
        have HST : Hid _ := hst
        clear hst hbr
        go_wp2_with fail
        refine Calls.mono (span_s wr hi R bs _ hS.out HB.out) ?_
        rintro e w5 ⟨y, rfl, s5, v5, d5⟩
        obtain ⟨xs, hxl, hown, hxs⟩ := hT.out
        have hzz := HZ.out
        have hown5 := own_keepC hown d5 (fun g hg e => by have := (own_blkV hown hg).1; omega)
        have HO5 : Hid _ := hown5
        have HS5 : Hid _ := s5
        have HV5 : Hid _ := v5
        have HC5 : Hid _ := Chg.andThen hC.out d5
        have HXS : Hid _ := hxs
        have HBK : Hid (∀ g, u5.ownBlock = some g → W.heap.size ≤ g) := fun g hg => (own_blkV hown hg).1
        have HW5 : Hid (W.heap.size ≤ w5.heap.size) := HC5.out.size
        clear hown hown5 s5 v5 d5 hxs hS hC hT
        go_wp2_with (first | (at_builtin; (refine wpList_append_lies _ rfl _ _ 37 rfl W.heap.size 83 i0 Spn.zero.agg 2 16 Try.underlying37 hii hz0 hz1 hz2 rfl (by decide) _ _ (flatP xs) rfl (own_keepJ HO5.out (kept_alloc 0 0 w5 _)) ⟨w5.heap.size, 0, none⟩ 1 1 (y.cells) rfl rfl (news2 w5 y 0) (one2 y) (by decide) (by unfold maxLen; omega) (by omega) (by have := HW5.out; simp; omega) _ rfl ?_)) | fail)
        intro g9 cap9 w9 hown9 hg9 _ _
        have c9 := chg_grow hg9
        have ka := kept_alloc 0 0 w5 (y.box)
        have R1 : Hid (RdS w9 hi R bs (itS (adv bs.length 4) (k + 1) (adv bs.length 2 s))) := by
          have h := (HS5.out.keepC (ka.chg (S := fun _ => False)) (fun _ _ h => h) (fun h => h)).keepC c9 (fun g hg e => by have := HBK.out g e; omega) (fun e => by have := HBK.out R e; omega)
          rw [itS, HST.out]
          exact h
        have R2 : Hid (∀ n9, n9 = xs.length + 1 → ∃ xs : List Spn, xs.length ≤ k + 1 ∧ w9.ownsRow W.heap.size 83 2 (.slice (some ⟨g9, 0, none⟩) n9 cap9) xs.length (flatP xs) ∧ (∀ p q, s = some p → itS (adv bs.length 4) (k + 1) (adv bs.length 2 s) = some q → xs = spnsAt bs (p + 2) (k + 1))) := by
          intro n9 hn9
          refine ⟨xs ++ [y], by simp; omega, ?_, fun p q' hp h => ?_⟩
          · rw [flatP_append, flatP_one, List.length_append, hn9]
            exact hown9
          · rw [itS, HST.out] at h
            have hq := HST.out
            have hx2 := HXS.out p q hp hq
            have hp2 : p + 2 ≤ bs.length := by
              subst hp
              by_cases c : p + 2 ≤ bs.length
              · exact c
              · simp only [adv] at hq
                rw [if_neg c, itS_none HF0.out] at hq; cases hq
            have hqp : q = p + 2 + 4 * k := by
              subst hp
              simp only [adv] at hq
              rw [if_pos hp2] at hq
              exact it_pos hq
            rw [spnsAt_succ, hx2, HV5.out q rfl (adv_fit h), hqp]
        have R3 : Hid (Chg (fun b => b = R) W w9) := Chg.new (Chg.andThen HC5.out ka.chg) c9 (fun i hi e => by have := HBK.out i e; omega)
        obtain ⟨n9, hn9⟩ : ∃ n9, n9 = xs.length + 1 := ⟨_, rfl⟩
        rw [← hn9]
        have HN9 : Hid _ := hn9
        clear c9 ka hown9 hg9 HO5 HS5 HV5 HC5 HXS hn9
        go_wp2_with fail
        go_roundw
        case rel => exact ⟨k + 1, by omega, by go_num, R1, R2.out n9 HN9.out, R3⟩
        case measure => simp [intOf]; omega
    · obtain rfl : k = X := by omega
      have he := HE.out k (Nat.le_refl _) (.inl rfl)
      obtain ⟨xs, _, hown, hxs⟩ := hT.out
      have R1 : Hid (∃ xs : List Spn, wr.ownsRow W.heap.size 83 2 u5 xs.length (flatP xs) ∧ RdS wr hi R bs (endS bs (adv bs.length 4) s) ∧ (∀ p q, s = some p → endS bs (adv bs.length 4) s = some q → xs = spnsAt bs (p + 2) (numAt bs p 2).toNat)) := by
        refine ⟨xs, hown, by rw [← he]; exact hS.out, fun p q hp h => ?_⟩
        rw [← he] at h
        have hp2 : p + 2 ≤ bs.length := by
          subst hp
          by_cases c : p + 2 ≤ bs.length
          · exact c
          · simp only [adv] at h
            rw [if_neg c, itS_none HF0.out] at h; cases h
        rw [hxs p q hp h, ← HV2.out p hp hp2]
        rfl
      clear hown he hS hT hxs
      go_wp2_with fail
      go_ret
      obtain ⟨xs, r1, r2⟩ := R1.out
      exact ⟨_, xs, rfl, r1, r2.1, r2.2, hC.out⟩
end Go.Proofs.Ytdkjdlimcnddkaa

namespace Go.Proofs.Ytdkjdlimcnddkaa
open Go.RowKit Flt
attribute [local go_sem] alloc_drewN setCell_drewN run_store_float

/-- Where the reader stands behind each part. -/
def s1L (bs : List Int) : Option Nat := adv bs.length 2 (some 0)
def s2L (bs : List Int) : Option Nat := endS bs (adv bs.length 2) (s1L bs)
def s3L (bs : List Int) : Option Nat := endS bs (nextS bs) (s2L bs)
def s4L (bs : List Int) : Option Nat := endS bs (adv bs.length 4) (s3L bs)
def s5L (bs : List Int) : Option Nat := adv bs.length 2 (s4L bs)
theorem end_some {bs : List Int} {f : Option Nat → Option Nat} {s : Option Nat} {q : Nat} (h : endS bs f s = some q) : ∃ p, s = some p ∧ p + 2 ≤ bs.length ∧ itS f (numAt bs p 2).toNat (some (p + 2)) = some q := by
  cases s with
  | none => cases h
  | some p =>
    unfold endS at h
    simp only at h
    by_cases c : p + 2 ≤ bs.length
    · rw [if_pos c] at h
      exact ⟨p, rfl, c, h⟩
    · rw [if_neg c] at h; cases h
theorem s5_some {bs : List Int} {q : Nat} (h : s5L bs = some q) : fitL bs = true ∧ s1L bs = some 2 ∧ s2L bs = some (p1L bs) ∧ s3L bs = some (p3L bs) ∧ s4L bs = some (p4L bs) ∧ s5L bs = some (p4L bs + 2) := by
  have h5 := h
  obtain ⟨p4, e4, hq, l4⟩ := adv_some h
  obtain ⟨p3, e3, l3, i3⟩ := end_some e4
  obtain ⟨p1, e1, l1, i1⟩ := end_some e3
  obtain ⟨p0, e0, l0, i0⟩ := end_some e1
  obtain ⟨z, ez, hz, lz⟩ := adv_some e0
  cases ez
  have hp0 : p0 = 2 := by omega
  subst hp0
  have hp1 : p1 = p1L bs := by rw [it_pos i0]; rfl
  subst hp1
  have hp3 : p3 = p3L bs := by rw [it_posN i1]; rfl
  subst hp3
  have hp4 : p4 = p4L bs := by rw [it_pos i3]; rfl
  subst hp4
  refine ⟨?_, e0, e1, e3, e4, ?_⟩
  · unfold fitL
    exact decide_eq_true l4
  · rw [h5, hq]
theorem s5_fit {bs : List Int} (h : fitL bs = true) : s5L bs = some (p4L bs + 2) := by
  have h4 : p4L bs + 2 ≤ bs.length := of_decide_eq_true h
  have h3 : p3L bs + 2 ≤ bs.length := by unfold p4L at h4; omega
  have h2 := p3L_le bs
  have h1 : 4 + 2 * n1L bs = p1L bs := rfl
  have e1 : s1L bs = some 2 := by unfold s1L; simp only [adv]; rw [if_pos (by omega)]
  have e2 : s2L bs = some (p1L bs) := by
    unfold s2L
    rw [e1]
    show (if 2 + 2 ≤ bs.length then itS (adv bs.length 2) (numAt bs 2 2).toNat (some (2 + 2)) else none) = _
    rw [if_pos (by omega), adv_it, if_pos (.inr (by unfold n1L at h1; omega))]; rfl
  have e3 : s3L bs = some (p3L bs) := by
    unfold s3L
    rw [e2]
    show (if p1L bs + 2 ≤ bs.length then itS (nextS bs) (n2L bs) (some (p1L bs + 2)) else none) = _
    rw [if_pos (by omega), next_it]
    rw [if_pos (.inr (show p3L bs ≤ bs.length by omega))]; rfl
  have e4 : s4L bs = some (p4L bs) := by
    unfold s4L
    rw [e3]
    show (if p3L bs + 2 ≤ bs.length then itS (adv bs.length 4) (n3L bs) (some (p3L bs + 2)) else none) = _
    rw [if_pos h3, adv_it, if_pos (.inr (by unfold p4L at h4; omega))]; rfl
  unfold s5L
  rw [e4]
  simp only [adv]
  rw [if_pos h4]
theorem s5_none {bs : List Int} (h : fitL bs = false) : s5L bs = none := by
  cases e : s5L bs with
  | none => rfl
  | some q => rw [(s5_some e).1] at h; cases h

theorem str_inj {xs ys : List Int} (hx : Bts xs) (hy : Bts ys) : ((strOfNums xs).toList == (strOfNums ys).toList) = (xs == ys) := by
  rw [Lib.strOfNums_toList, Lib.strOfNums_toList]
  rw [Bool.eq_iff_iff]
  simp only [beq_iff_eq]
  constructor
  · intro h
    have key : ∀ (zs : List Int), Bts zs → (zs.map fun n => UInt8.ofNat n.toNat).map (fun b => (b.toNat : Int)) = zs := fun zs hz => by
      rw [List.map_map]
      conv => rhs; rw [← List.map_id zs]
      apply List.map_congr_left
      intro z hzm
      have := hz z hzm
      simp only [Function.comp, id]
      rw [UInt8.toNat_ofNat']
      omega
    have h' : (xs.map fun n => UInt8.ofNat n.toNat) = (ys.map fun n => UInt8.ofNat n.toNat) := h
    rw [← key xs hx, ← key ys hy, h']
  · intro h; rw [h]
theorem convY {w : World} {a : Option Addr} {n c : Nat} {xs : List Int} (f : YS w a n xs) : (convert 50 9 (.slice a n c)).run Try.prog w = .ok (.string (strOfNums xs)) w := by
  have hb : Try.prog.underlying 5 = some (.int .u8) := by kernel_rfl
  have hs : Try.prog.underlying 9 = some .string := by kernel_rfl
  rcases f.at_ with rfl | ⟨g, off, rfl, _, h4⟩
  · have : xs = [] := List.length_eq_zero_iff.1 f.len
    subst this
    exact run_convert_bytes_zero w 50 5 Try.underlying50 hb a c 9 hs
  · exact run_convert_bytes_arg w 50 5 Try.underlying50 hb g off n c xs f.len h4 9 hs
set_option maxRecDepth 100000 in
set_option maxHeartbeats 2000000 in
theorem bytesEq (w : World) (a b : Option Addr) (n c m d : Nat) (xs ys : List Int) (f : YS w a n xs) (g : YS w b m ys) :
    Calls Try.prog 75 #[.slice a n c, .slice b m d] w fun e w' => e = .returned (.bool (xs == ys)) ∧ w = w' := by
  have h1 := convY (c := c) f
  have h2 := convY (c := d) g
  have h3 := str_inj (xs := xs) (ys := ys) f.lt g.lt
  have H3 : Hid _ := h3
  clear f g h3
  go_enter Try.func75, Try.ntmps75
  go_wp2
  go_ret
  exact ⟨by rw [← H3.out]; rfl, rfl⟩
end Go.Proofs.Ytdkjdlimcnddkaa
