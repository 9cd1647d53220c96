import Derived.Test.YtcphabjekfihnaaA10
import Derived.Lib.Strings
import Derived.Lib.Bytealg
import Derived.Laws.BytesArg
import Derived.Test.YtcphabjekfihnaaA11
namespace Go.Proofs.Ytcphabjekfihnaa
open Go.RowKit Flt

set_option maxHeartbeats 400000 in
theorem isDig (c : Int) (w : World) : Calls Try.prog 124 #[.int .u8 c] w fun e w' => e = .returned (.bool (dig c)) ∧ w' = w := by
  by_cases h1 : 48 ≤ c
  · have e : dig c = decide (c ≤ 57) := by unfold dig; rw [decide_eq_true h1]; rfl
    rw [e]
    go_enter Try.func124, Try.ntmps124
    go_wp2
    go_ret
    exact ⟨rfl, rfl⟩
  · have e : dig c = false := by unfold dig; rw [decide_eq_false h1]; rfl
    have t : decide (48 ≤ c) = false := decide_eq_false h1
    rw [e]
    go_enter Try.func124, Try.ntmps124
    go_wp2
    go_ret
    exact ⟨rfl, rfl⟩

/-- e is the end of the run of digits that begins at k. -/
structure RunE (xs : List Int) (k e : Nat) : Prop where
  le : k ≤ e
  len : e ≤ xs.length
  digit : ∀ i, k ≤ i → i < e → dig (xs.getD i 0) = true
  stop : e < xs.length → dig (xs.getD e 0) = false
/-- The end of a number that begins at 0. -/
def NumE (xs : List Int) (e : Nat) : Prop := ∃ e1, RunE xs 0 e1 ∧
  ((e1 + 1 < xs.length ∧ xs.getD e1 0 = 46 ∧ dig (xs.getD (e1 + 1) 0) = true ∧ RunE xs (e1 + 1) e) ∨ (¬ (e1 + 1 < xs.length ∧ xs.getD e1 0 = 46 ∧ dig (xs.getD (e1 + 1) 0) = true) ∧ e = e1))
theorem NumE.good {xs : List Int} (h : NumE xs xs.length) (h0 : 0 < xs.length) (hd : dig (xs.getD 0 0) = true) : Good xs := by
  obtain ⟨e1, r, ⟨c1, c2, c3, r2⟩ | ⟨_, rfl⟩⟩ := h
  · have hp : 0 < e1 := by
      rcases Nat.eq_zero_or_pos e1 with q | q
      · subst q
        have := r.stop h0
        rw [hd] at this; cases this
      · exact q
    refine ⟨(e1 : Int), h0, fun i hi => ?_, fun i hi hn => ?_, .inr ⟨by omega, by omega⟩⟩
    · rcases Nat.lt_trichotomy i e1 with q | q | q
      · refine ⟨fun c => ?_, fun c => by omega⟩
        have := r.digit i (Nat.zero_le _) q
        rw [c] at this; cases this
      · subst q
        exact ⟨fun _ => rfl, fun _ => c2⟩
      · refine ⟨fun c => ?_, fun c => by omega⟩
        have := r2.digit i (by omega) hi
        rw [c] at this; cases this
    · rcases Nat.lt_trichotomy i e1 with q | q | q
      · exact r.digit i (Nat.zero_le _) q
      · subst q; exact absurd c2 hn
      · exact r2.digit i (by omega) hi
  · refine ⟨-1, h0, fun i hi => ⟨fun c => ?_, fun c => by omega⟩, fun i hi _ => r.digit i (Nat.zero_le _) hi, .inl rfl⟩
    have := r.digit i (Nat.zero_le _) hi
    rw [c] at this; cases this
theorem NumE.not {xs : List Int} {e : Nat} (h : NumE xs e) (hne : e ≠ xs.length) : ¬ Good xs := by
  rintro ⟨p, g⟩
  obtain ⟨e1, r, h2⟩ := h
  have key : e1 < xs.length → (e1 : Int) = p := fun hlt => by
    have hs := r.stop hlt
    by_cases c : xs.getD e1 0 = 46
    · exact (g.point e1 hlt).1 c
    · have := g.digit e1 hlt c
      rw [hs] at this; cases this
  rcases h2 with ⟨c1, c2, c3, r2⟩ | ⟨c, rfl⟩
  · have hp := key (by omega)
    have hlt : e < xs.length := by have := r2.len; omega
    have hs := r2.stop hlt
    have hle := r2.le
    have hn : xs.getD e 0 ≠ 46 := fun q => by have := (g.point e hlt).1 q; omega
    have := g.digit e hlt hn
    rw [hs] at this; cases this
  · have hlt : e < xs.length := by have := r.len; omega
    have hp := key hlt
    apply c
    have h46 := (g.point e hlt).2 hp
    rcases g.place with q | q
    · omega
    · refine ⟨by omega, h46, g.digit (e + 1) (by omega) fun c => ?_⟩
      have := (g.point (e + 1) (by omega)).1 c
      omega
theorem first_not {xs : List Int} (h : 0 < xs.length) (hd : dig (xs.getD 0 0) = false) : ¬ Good xs := by
  rintro ⟨p, g⟩
  by_cases c : xs.getD 0 0 = 46
  · have := (g.point 0 h).1 c
    rcases g.place with q | q <;> omega
  · have := g.digit 0 h c
    rw [hd] at this; cases this

set_option maxRecDepth 100000 in
set_option maxHeartbeats 2000000 in
theorem runEndD (w : World) (g off n cap k0 : Nat) (xs : List Int) (hx : xs.length = n) (hn : n ≤ 1048576) (hk0 : k0 ≤ n)
    (hc : ∀ k, k < n → w.cell? ⟨g, off + k, none⟩ = some (.int .u8 (xs.getD k 0))) :
    Calls Try.prog 162 #[.slice (some ⟨g, off, none⟩) n cap, .int .i64 (k0 : Int), .func (.func 124) #[] #[]] w fun e w' => ∃ m : Nat, e = .returned (.int .i64 (m : Int)) ∧ RunE xs k0 m ∧ w' = w := by
  have HC : Hid (∀ k, k < n → w.cell? ⟨g, off + k, none⟩ = some (.int .u8 (xs.getD k 0))) := hc
  have HX : Hid (xs.length = n) := hx
  clear hc hx
  go_enter Try.func162, Try.ntmps162
  go_wp2_with fail
  go_loop [1] (fun v => ∃ k : Nat, k ≤ n ∧ v = .int .i64 (k : Int) ∧ Hid (k0 ≤ k ∧ ∀ i, k0 ≤ i → i < k → dig (xs.getD i 0) = true)) (fun v => n - (intOf v).toNat)
  case atStart => exact ⟨k0, hk0, rfl, Nat.le_refl _, fun i h1 h2 => by omega⟩
  case round =>
    obtain ⟨k, hk, rfl, hA⟩ := hrel
    by_cases hlt : k < n
    · have c := HC.out k hlt
      have HD : Hid _ := isDig (xs.getD k 0) w
      cases t : dig (xs.getD k 0)
      · have R : Hid (RunE xs k0 k) := ⟨hA.out.1, by rw [HX.out]; exact hk, hA.out.2, fun _ => t⟩
        rw [t] at HD
        generalize xs.getD k 0 = x at c HD
        clear t
        go_wp2_with fail
        refine Calls.mono HD.out ?_
        rintro e w' ⟨rfl, rfl⟩
        go_wp2
        go_ret
        exact ⟨k, rfl, R.out, rfl⟩
      · have R : Hid (k0 ≤ k + 1 ∧ ∀ i, k0 ≤ i → i < k + 1 → dig (xs.getD i 0) = true) := ⟨by have := hA.out.1; omega, fun i h1 h2 => by
          rcases Nat.lt_or_ge i k with q | q
          · exact hA.out.2 i h1 q
          · obtain rfl : i = k := by omega
            exact t⟩
        rw [t] at HD
        generalize xs.getD k 0 = x at c HD
        clear t
        go_wp2_with fail
        refine Calls.mono HD.out ?_
        rintro e w' ⟨rfl, rfl⟩
        go_wp2
        go_round
        case rel => exact ⟨k + 1, by omega, by go_num, R⟩
        case measure => simp [intOf]; omega
    · obtain rfl : k = n := by omega
      have R : Hid (RunE xs k0 k) := ⟨hA.out.1, by rw [HX.out]; exact Nat.le_refl _, hA.out.2, fun h => by rw [HX.out] at h; omega⟩
      go_wp2
      go_ret
      exact ⟨k, rfl, R.out, rfl⟩

set_option maxRecDepth 100000 in
set_option maxHeartbeats 2000000 in
theorem numberEnd0 (w : World) (g off n cap : Nat) (xs : List Int) (hx : xs.length = n) (hn : n ≤ 1048576)
    (hc : ∀ k, k < n → w.cell? ⟨g, off + k, none⟩ = some (.int .u8 (xs.getD k 0))) :
    Calls Try.prog 125 #[.slice (some ⟨g, off, none⟩) n cap, .int .i64 0] w fun e w' => ∃ m : Nat, e = .returned (.int .i64 (m : Int)) ∧ NumE xs m ∧ m ≤ n ∧ w' = w := by
  have HC : Hid (∀ k, k < n → w.cell? ⟨g, off + k, none⟩ = some (.int .u8 (xs.getD k 0))) := hc
  have HX : Hid (xs.length = n) := hx
  have HR0 : Hid _ := runEndD w g off n cap 0 xs hx hn (Nat.zero_le _) hc
  have HR : Hid (∀ k0, k0 ≤ n → _) := fun k0 (h : k0 ≤ n) => runEndD w g off n cap k0 xs hx hn h hc
  rw [show ((0 : Nat) : Int) = 0 from rfl] at HR0
  clear hc hx
  go_enter Try.func125, Try.ntmps125
  go_wp2_with fail
  refine Calls.mono HR0.out ?_
  rintro e w' ⟨m, rfl, hr, rfl⟩
  have hml : m ≤ n := by have := hr.len; rw [HX.out] at this; exact this
  have HRR : Hid _ := hr
  clear hr HR0
  by_cases c1 : m + 1 < n
  · have d0 := HC.out m (by omega)
    have d1 := HC.out (m + 1) c1
    have t1 : (m : Int) + 1 < (n : Int) := by omega
    by_cases c2 : xs.getD m 0 = 46
    · rw [c2] at d0
      have HD : Hid _ := isDig (xs.getD (m + 1) 0) w'
      cases t : dig (xs.getD (m + 1) 0)
      · have R : Hid (NumE xs m) := ⟨m, HRR.out, .inr ⟨fun c => (by rw [t] at c; cases c.2.2), rfl⟩⟩
        rw [t] at HD
        generalize xs.getD (m + 1) 0 = x at d1 HD
        clear t c2
        go_wp2_with fail
        refine Calls.mono HD.out ?_
        rintro e w2 ⟨rfl, rfl⟩
        go_wp2
        go_ret
        exact ⟨m, rfl, R.out, hml, rfl⟩
      · have R : Hid (∀ e, RunE xs (m + 1) e → NumE xs e ∧ e ≤ n) := fun e he => ⟨⟨m, HRR.out, .inl ⟨by rw [HX.out]; exact c1, c2, t, he⟩⟩, by have := he.len; rw [HX.out] at this; exact this⟩
        have HR1 : Hid _ := HR.out (m + 1) (by omega)
        rw [show ((m + 1 : Nat) : Int) = (m : Int) + 1 by omega] at HR1
        rw [t] at HD
        generalize xs.getD (m + 1) 0 = x at d1 HD
        clear t c2
        go_wp2_with fail
        refine Calls.mono HD.out ?_
        rintro e w2 ⟨rfl, rfl⟩
        go_wp2_with fail
        refine Calls.mono HR1.out ?_
        rintro e w2 ⟨m2, rfl, hr2, rfl⟩
        have R2 : Hid _ := R.out m2 hr2
        clear hr2
        go_wp2
        go_ret
        exact ⟨m2, rfl, R2.out.1, R2.out.2, rfl⟩
    · have t2 : (xs.getD m 0 == 46) = false := beq_eq_false_iff_ne.2 c2
      have R : Hid (NumE xs m) := ⟨m, HRR.out, .inr ⟨fun c => c2 c.2.1, rfl⟩⟩
      generalize xs.getD m 0 = x at d0 t2
      clear c2 d1
      go_wp2
      go_ret
      exact ⟨m, rfl, R.out, hml, rfl⟩
  · have t1 : ¬ ((m : Int) + 1 < (n : Int)) := by omega
    have R : Hid (NumE xs m) := ⟨m, HRR.out, .inr ⟨fun c => by rw [HX.out] at c; exact c1 c.1, rfl⟩⟩
    go_wp2
    go_ret
    exact ⟨m, rfl, R.out, hml, rfl⟩

set_option maxHeartbeats 1000000 in
set_option maxRecDepth 100000 in
/-- The library's count of one byte in a string, met by the model's own entry. -/
theorem count1 (s : ByteArray) (c : UInt8) (w : World) :
    Calls Try.prog 163 #[.string s, .string ⟨#[c]⟩] w fun e w' => e = .returned (.int .i64 (Lib.countByte s.data.toList c)) ∧ w' = w := by
  go_enter Try.func163, Try.ntmps163
  go_wp2
  rw [run_callFunc_extern Try.func189 (by kernel_rfl) (by kernel_rfl) (by kernel_rfl) (e := Extern.BytealgCount.count) (by kernel_rfl), Lib.run_countString]
  simp only [Result.andThen]
  rw [Oper.upon_value]
  go_wp2
  go_ret
  exact ⟨rfl, rfl⟩
theorem u8_46 {x : Int} (h : 0 ≤ x ∧ x < 256) : (UInt8.ofNat x.toNat == 46) = (x == 46) := by
  obtain ⟨m, rfl⟩ := Int.eq_ofNat_of_zero_le h.1
  have hm : m < 256 := by omega
  rw [Bool.eq_iff_iff]
  simp only [beq_iff_eq, Int.toNat_natCast]
  constructor
  · intro e
    have := congrArg UInt8.toNat e
    simp [Nat.mod_eq_of_lt hm] at this
    omega
  · intro e
    have : m = 46 := by omega
    subst this; rfl
theorem countNums : ∀ (xs : List Int), (∀ x ∈ xs, 0 ≤ x ∧ x < 256) → Lib.countByte (strOfNums xs).data.toList 46 = ((xs.countP (· == 46) : Nat) : Int) := by
  intro xs h
  rw [strOfNums_data]
  unfold Lib.countByte
  congr 1
  induction xs with
  | nil => rfl
  | cons x r ih =>
    have h1 := u8_46 (h x (by simp))
    have h2 := ih fun y hy => h y (by simp [hy])
    rw [List.map_cons, List.count_cons, List.countP_cons, h2, h1]
set_option maxRecDepth 100000 in
set_option maxHeartbeats 2000000 in
theorem digitCount (xs : List Int) (w : World) (h : ∀ x ∈ xs, 0 ≤ x ∧ x < 256) (hn : xs.length ≤ 1048576) :
    Calls Try.prog 126 #[.string (strOfNums xs)] w fun e w' => e = .returned (.int .i64 ((xs.length : Int) - (xs.countP (· == 46) : Nat))) ∧ w' = w := by
  have HX : Hid _ := count1 (strOfNums xs) 46 w
  rw [countNums xs h] at HX
  have hs := strOfNums_size xs
  have hc : xs.countP (· == 46) ≤ xs.length := List.countP_le_length
  generalize xs.countP (· == 46) = c at HX hc ⊢
  generalize strOfNums xs = s at HX hs ⊢
  generalize xs.length = n at hs hc hn ⊢
  go_enter Try.func126, Try.ntmps126
  go_wp2_with fail
  refine Calls.mono HX.out ?_
  rintro e w' ⟨rfl, rfl⟩
  clear HX
  go_wp2
  go_ret
  exact ⟨by rw [← hs]; rfl, rfl⟩
end Go.Proofs.Ytcphabjekfihnaa

namespace Go.Proofs.Ytcphabjekfihnaa
open Go.RowKit Flt

theorem convStr (w : World) (g off n cap : Nat) (xs : List Int) (hx : xs.length = n) (hc : ∀ k, k < n → w.cell? ⟨g, off + k, none⟩ = some (.int .u8 (xs.getD k 0))) :
    (convert 22 9 (.slice (some ⟨g, off, none⟩) n cap)).run Try.prog w = .ok (.string (strOfNums xs)) w :=
  run_convert_bytes_arg w 22 5 Try.underlying22 Try.underlying5 g off n cap xs hx hc 9 Try.underlying9

set_option maxRecDepth 100000 in
set_option maxHeartbeats 2000000 in
theorem implRN_zero (w : World) (a : Option Addr) (cap : Nat) :
    Calls Try.prog 53 #[.slice a 0 cap] w fun e w' => e = .returned (.tuple #[.float .f64 0, .int .i64 2]) ∧ Drawn w w' := by
  go_enter Try.func53, Try.ntmps53
  go_wp2
  go_ret2
  exact ⟨rfl, Drawn.refl _⟩

set_option maxRecDepth 100000 in
set_option maxHeartbeats 4000000 in
theorem implRN_pos (w : World) (g off n cap : Nat) (xs : List Int) (hx : xs.length = n) (h0 : 0 < n) (hn : n ≤ 1048576) (hlt : ∀ x ∈ xs, 0 ≤ x ∧ x < 256)
    (hc : ∀ k, k < n → w.cell? ⟨g, off + k, none⟩ = some (.int .u8 (xs.getD k 0))) :
    Calls Try.prog 53 #[.slice (some ⟨g, off, none⟩) n cap] w fun e w' => ∃ f c, e = .returned (.tuple #[.float .f64 f, .int .i64 c]) ∧ RN xs f c ∧ Drawn w w' := by
  have HC : Hid (∀ k, k < n → w.cell? ⟨g, off + k, none⟩ = some (.int .u8 (xs.getD k 0))) := hc
  have HX : Hid (xs.length = n) := hx
  have HL : Hid (∀ x ∈ xs, 0 ≤ x ∧ x < 256) := hlt
  have HD : Hid _ := isDig (xs.getD 0 0) w
  have HE : Hid _ := numberEnd0 w g off n cap xs hx hn hc
  have d0 := hc 0 h0
  rw [Nat.add_zero] at d0
  have t0 : ((n : Int) == 0) = false := beq_eq_false_iff_ne.2 (by omega)
  have hxp : 0 < xs.length := by rw [hx]; exact h0
  clear hc hx hlt
  go_enter Try.func53, Try.ntmps53
  cases t : dig (xs.getD 0 0)
  · have R : Hid (RN xs 0 2) := .inl ⟨first_not hxp t, rfl, rfl⟩
    rw [t] at HD
    generalize xs.getD 0 0 = x at d0 HD
    clear t hxp
    go_wp2_with fail
    refine Calls.mono HD.out ?_
    rintro e w' ⟨rfl, rfl⟩
    go_wp2
    go_ret2
    exact ⟨0, 2, rfl, R.out, Drawn.refl _⟩
  · have HT : Hid _ := t
    rw [t] at HD
    generalize xs.getD 0 0 = x at d0 HD
    clear t
    go_wp2_with fail
    refine Calls.mono HD.out ?_
    rintro e w' ⟨rfl, rfl⟩
    go_wp2_with fail
    refine Calls.mono HE.out ?_
    rintro e w' ⟨m, rfl, hN, hm, rfl⟩
    by_cases hmn : m = n
    · obtain ⟨p, hG⟩ : Good xs := NumE.good (by rw [HX.out, ← hmn]; exact hN) hxp HT.out
      subst hmn
      have HG : Hid _ := hG
      have tm : ((m : Int) != (m : Int)) = false := by simp
      have hconv := convStr w' g off m cap xs HX.out HC.out
      have HDC : Hid _ := digitCount xs w' HL.out (by rw [HX.out]; exact hn)
      have hcnt : (xs.length : Int) - (xs.countP (· == 46) : Nat) = (xs.countP dig : Nat) := by
        have := cnt_both xs hG.digit xs.length (Nat.le_refl _)
        rw [List.take_of_length_le (Nat.le_refl _)] at this
        omega
      rw [hcnt] at HDC
      have hshort := hG.short
      have hle : xs.countP dig ≤ m := by have := List.countP_le_length (p := dig) (l := xs); rw [HX.out] at this; exact this
      clear hN hG hcnt HD HE d0
      by_cases h15 : 15 < xs.countP dig
      · have R : Hid (RN xs 0 5) := .inr (.inl ⟨⟨p, HG.out⟩, h15, rfl, rfl⟩)
        clear hshort
        generalize xs.countP dig = q at HDC h15 hle
        have tq : (15 : Int) < (q : Int) := by omega
        go_wp2_with fail
        refine Calls.mono HDC.out ?_
        rintro e w2 ⟨rfl, rfl⟩
        go_wp2
        go_ret2
        exact ⟨0, 5, rfl, R.out, Drawn.refl _⟩
      · have hk16 : m ≤ 16 := by have := hshort (by omega); rw [HX.out] at this; exact this
        have HDG : Hid (xs.countP dig ≤ 15) := Nat.le_of_not_lt h15
        clear hshort
        generalize hq : xs.countP dig = q at HDC h15 hle
        clear hq
        have tq : ¬ ((15 : Int) < (q : Int)) := by omega
        go_wp2_with fail
        refine Calls.mono HDC.out ?_
        rintro e w2 ⟨rfl, rfl⟩
        clear HDC hconv
        go_wp2_with fail
        go_loopw [4, 5, 6, 32] (fun nv dv bv iv W => ∃ (j : Nat) (N D : Int) (B : Bool), j ≤ m ∧ nv = .int .i64 N ∧ dv = .int .i64 D ∧ bv = .bool B ∧ iv = .int .i64 j ∧ Hid (N = (nds (xs.take j)).1 ∧ D = (nds (xs.take j)).2.1 ∧ B = (nds (xs.take j)).2.2) ∧ Drawn w2 W) (fun _ _ _ iv _ => m - (intOf iv).toNat)
        case atStart => exact ⟨0, 0, 1, false, Nat.zero_le _, rfl, rfl, rfl, rfl, ⟨rfl, rfl, rfl⟩, Drawn.refl _⟩
        case round =>
          obtain ⟨j, N, D, B, hj, rfl, rfl, rfl, rfl, hND, HW2⟩ := hrel
          obtain ⟨b1, b2, b3, b4⟩ := nds_small xs HG.out.digit j (by rw [HX.out]; exact hj) (by omega)
          rw [← hND.out.1] at b1 b2
          rw [← hND.out.2.1] at b3 b4
          by_cases hjl : j < m
          · have c1 : wr.cell? ⟨g, off + j, none⟩ = some (.int .u8 (xs.getD j 0)) := by rw [HW2.cell]; exact HC.out j hjl
            have hjx : j < xs.length := by rw [HX.out]; exact hjl
            by_cases h46 : xs.getD j 0 = 46
            · obtain ⟨q1, q2, q3⟩ := nds_point hjx h46
              have R : Hid (N = (nds (xs.take (j + 1))).1 ∧ D = (nds (xs.take (j + 1))).2.1 ∧ true = (nds (xs.take (j + 1))).2.2) := ⟨hND.out.1.trans q1.symm, hND.out.2.1.trans q2.symm, q3.symm⟩
              rw [h46] at c1
              clear hND q1 q2 q3 h46
              go_wp2
              go_roundw
              case rel => exact ⟨j + 1, N, D, true, by omega, rfl, rfl, rfl, by go_num, R, HW2⟩
              case measure => simp [intOf]; omega
            · have hd := dig_true (HG.out.digit j hjx h46)
              obtain ⟨q1, q2, q3⟩ := nds_digit hjx h46
              rw [← hND.out.1] at q1
              rw [← hND.out.2.2, ← hND.out.2.1] at q2
              rw [← hND.out.2.2] at q3
              have t46 : (xs.getD j 0 == 46) = false := beq_eq_false_iff_ne.2 h46
              cases B
              · have R : Hid (N * 10 + (xs.getD j 0 - 48) = (nds (xs.take (j + 1))).1 ∧ D = (nds (xs.take (j + 1))).2.1 ∧ false = (nds (xs.take (j + 1))).2.2) := ⟨q1.symm, q2.symm, q3.symm⟩
                clear hND q1 q2 q3 h46
                generalize xs.getD j 0 = x at c1 hd R t46
                go_wp2
                go_roundw
                case rel => exact ⟨j + 1, _, _, _, by omega, by go_num, rfl, rfl, by go_num, R, HW2⟩
                case measure => simp [intOf]; omega
              · have R : Hid (N * 10 + (xs.getD j 0 - 48) = (nds (xs.take (j + 1))).1 ∧ D * 10 = (nds (xs.take (j + 1))).2.1 ∧ true = (nds (xs.take (j + 1))).2.2) := ⟨q1.symm, q2.symm, q3.symm⟩
                clear hND q1 q2 q3 h46
                generalize xs.getD j 0 = x at c1 hd R t46
                go_wp2
                go_roundw
                case rel => exact ⟨j + 1, _, _, _, by omega, by go_num, by go_num, rfl, by go_num, R, HW2⟩
                case measure => simp [intOf]; omega
          · obtain rfl : j = m := by omega
            have e : xs.take j = xs := List.take_of_length_le (by rw [HX.out]; exact Nat.le_refl _)
            rw [e] at hND
            have R : Hid (∀ W : World, RN xs (fop .quo (floatOfInt .f64 N) (floatOfInt .f64 D) W) 0) := fun W => .inr (.inr ⟨⟨p, HG.out⟩, HDG.out, fop_lt _ _ _ _, by rw [fb_fop, hND.out.1, hND.out.2.1], rfl⟩)
            clear hND e
            go_wp2_with fail
            refine Calls.mono (over_any _ _ _) ?_
            rintro e w3 ⟨rfl, rfl⟩
            go_wp2
            go_ret2
            exact ⟨_, 0, rfl, R.out _, HW2.more _⟩
    · have R : Hid (RN xs 0 2) := .inl ⟨hN.not (by rw [HX.out]; exact hmn), rfl, rfl⟩
      have tm : ((m : Int) != (n : Int)) = true := by simp; omega
      clear hN hxp HT
      go_wp2
      go_ret2
      exact ⟨0, 2, rfl, R.out, Drawn.refl _⟩
theorem implRN (w : World) (a : Option Addr) (n cap : Nat) (xs : List Int) (f : YS w a n xs) (hn : n ≤ 1048576) :
    Calls Try.prog 53 #[.slice a n cap] w fun e w' => ∃ f c, e = .returned (.tuple #[.float .f64 f, .int .i64 c]) ∧ RN xs f c ∧ Drawn w w' := by
  rcases Nat.eq_zero_or_pos n with h0 | h0
  · subst h0
    have : xs = [] := List.length_eq_zero_iff.1 f.len
    subst this
    exact (implRN_zero w a cap).mono fun _ _ h => ⟨0, 2, h.1, .inl ⟨fun ⟨_, g⟩ => by have := g.pos; simp at this, rfl, rfl⟩, h.2⟩
  · rcases f.at_ with h | ⟨g, off, rfl, h3, h4⟩
    · omega
    · exact implRN_pos w g off n cap xs f.len h0 hn f.lt h4
end Go.Proofs.Ytcphabjekfihnaa
