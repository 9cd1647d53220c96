import Derived.Test.YtpglbgejlpeckabQ2
import Derived.Lib.Strings
import Derived.Lib.Bytealg
import Derived.Laws.BytesArg
namespace Go.Proofs.Ytpglbgejlpeckab
open Go.RowKit Flt

set_option maxHeartbeats 400000 in
theorem isDig (c : Int) (w : World) : Calls Try.prog 111 #[.int .u8 c] w fun e w' => e = .returned (.bool (dig c)) ∧ w' = w := by
  by_cases h1 : 48 ≤ c
  · have e : dig c = decide (c ≤ 57) := by unfold dig; rw [decide_eq_true h1]; rfl
    rw [e]
    go_enter Try.func111, Try.ntmps111
    go_wp2
    go_ret
    exact ⟨rfl, rfl⟩
  · have e : dig c = false := by unfold dig; rw [decide_eq_false h1]; rfl
    have t : decide (48 ≤ c) = false := decide_eq_false h1
    rw [e]
    go_enter Try.func111, Try.ntmps111
    go_wp2
    go_ret
    exact ⟨rfl, rfl⟩

/-- e is the end of the run of digits that begins at k. -/
structure RunE (xs : List Int) (k e : Nat) : Prop where
  le : k ≤ e
  len : e ≤ xs.length
  digit : ∀ i, k ≤ i → i < e → dig (xs.getD i 0) = true
  stop : e < xs.length → dig (xs.getD e 0) = false
/-- The end of a number that begins at 0. -/
def NumE (xs : List Int) (e : Nat) : Prop := ∃ e1, RunE xs 0 e1 ∧
  ((e1 + 1 < xs.length ∧ xs.getD e1 0 = 46 ∧ dig (xs.getD (e1 + 1) 0) = true ∧ RunE xs (e1 + 1) e) ∨ (¬ (e1 + 1 < xs.length ∧ xs.getD e1 0 = 46 ∧ dig (xs.getD (e1 + 1) 0) = true) ∧ e = e1))
theorem NumE.good {xs : List Int} (h : NumE xs xs.length) (h0 : 0 < xs.length) (hd : dig (xs.getD 0 0) = true) : Good xs := by
  obtain ⟨e1, r, ⟨c1, c2, c3, r2⟩ | ⟨_, rfl⟩⟩ := h
  · have hp : 0 < e1 := by
      rcases Nat.eq_zero_or_pos e1 with q | q
      · subst q
        have := r.stop h0
        rw [hd] at this; cases this
      · exact q
    refine ⟨(e1 : Int), h0, fun i hi => ?_, fun i hi hn => ?_, .inr ⟨by omega, by omega⟩⟩
    · rcases Nat.lt_trichotomy i e1 with q | q | q
      · refine ⟨fun c => ?_, fun c => by omega⟩
        have := r.digit i (Nat.zero_le _) q
        rw [c] at this; cases this
      · subst q
        exact ⟨fun _ => rfl, fun _ => c2⟩
      · refine ⟨fun c => ?_, fun c => by omega⟩
        have := r2.digit i (by omega) hi
        rw [c] at this; cases this
    · rcases Nat.lt_trichotomy i e1 with q | q | q
      · exact r.digit i (Nat.zero_le _) q
      · subst q; exact absurd c2 hn
      · exact r2.digit i (by omega) hi
  · refine ⟨-1, h0, fun i hi => ⟨fun c => ?_, fun c => by omega⟩, fun i hi _ => r.digit i (Nat.zero_le _) hi, .inl rfl⟩
    have := r.digit i (Nat.zero_le _) hi
    rw [c] at this; cases this
theorem NumE.not {xs : List Int} {e : Nat} (h : NumE xs e) (hne : e ≠ xs.length) : ¬ Good xs := by
  rintro ⟨p, g⟩
  obtain ⟨e1, r, h2⟩ := h
  have key : e1 < xs.length → (e1 : Int) = p := fun hlt => by
    have hs := r.stop hlt
    by_cases c : xs.getD e1 0 = 46
    · exact (g.point e1 hlt).1 c
    · have := g.digit e1 hlt c
      rw [hs] at this; cases this
  rcases h2 with ⟨c1, c2, c3, r2⟩ | ⟨c, rfl⟩
  · have hp := key (by omega)
    have hlt : e < xs.length := by have := r2.len; omega
    have hs := r2.stop hlt
    have hle := r2.le
    have hn : xs.getD e 0 ≠ 46 := fun q => by have := (g.point e hlt).1 q; omega
    have := g.digit e hlt hn
    rw [hs] at this; cases this
  · have hlt : e < xs.length := by have := r.len; omega
    have hp := key hlt
    apply c
    have h46 := (g.point e hlt).2 hp
    rcases g.place with q | q
    · omega
    · refine ⟨by omega, h46, g.digit (e + 1) (by omega) fun c => ?_⟩
      have := (g.point (e + 1) (by omega)).1 c
      omega
theorem first_not {xs : List Int} (h : 0 < xs.length) (hd : dig (xs.getD 0 0) = false) : ¬ Good xs := by
  rintro ⟨p, g⟩
  by_cases c : xs.getD 0 0 = 46
  · have := (g.point 0 h).1 c
    rcases g.place with q | q <;> omega
  · have := g.digit 0 h c
    rw [hd] at this; cases this

set_option maxRecDepth 100000 in
set_option maxHeartbeats 2000000 in
theorem runEndD (w : World) (g off n cap k0 : Nat) (xs : List Int) (hx : xs.length = n) (hn : n ≤ 1048576) (hk0 : k0 ≤ n)
    (hc : ∀ k, k < n → w.cell? ⟨g, off + k, none⟩ = some (.int .u8 (xs.getD k 0))) :
    Calls Try.prog 136 #[.slice (some ⟨g, off, none⟩) n cap, .int .i64 (k0 : Int), .func (.func 111) #[] #[]] w fun e w' => ∃ m : Nat, e = .returned (.int .i64 (m : Int)) ∧ RunE xs k0 m ∧ w' = w := by
  have HC : Hid (∀ k, k < n → w.cell? ⟨g, off + k, none⟩ = some (.int .u8 (xs.getD k 0))) := hc
  have HX : Hid (xs.length = n) := hx
  clear hc hx
  go_enter Try.func136, Try.ntmps136
  go_wp2_with fail
  go_loop [1] (fun v => ∃ k : Nat, k ≤ n ∧ v = .int .i64 (k : Int) ∧ Hid (k0 ≤ k ∧ ∀ i, k0 ≤ i → i < k → dig (xs.getD i 0) = true)) (fun v => n - (intOf v).toNat)
  case atStart => exact ⟨k0, hk0, rfl, Nat.le_refl _, fun i h1 h2 => by omega⟩
  case round =>
    obtain ⟨k, hk, rfl, hA⟩ := hrel
    by_cases hlt : k < n
    · have c := HC.out k hlt
      have HD : Hid _ := isDig (xs.getD k 0) w
      cases t : dig (xs.getD k 0)
      · have R : Hid (RunE xs k0 k) := ⟨hA.out.1, by rw [HX.out]; exact hk, hA.out.2, fun _ => t⟩
        rw [t] at HD
        generalize xs.getD k 0 = x at c HD
        clear t
        go_wp2_with fail
        refine Calls.mono HD.out ?_
        rintro e w' ⟨rfl, rfl⟩
        go_wp2
        go_ret
        exact ⟨k, rfl, R.out, rfl⟩
      · have R : Hid (k0 ≤ k + 1 ∧ ∀ i, k0 ≤ i → i < k + 1 → dig (xs.getD i 0) = true) := ⟨by have := hA.out.1; omega, fun i h1 h2 => by
          rcases Nat.lt_or_ge i k with q | q
          · exact hA.out.2 i h1 q
          · obtain rfl : i = k := by omega
            exact t⟩
        rw [t] at HD
        generalize xs.getD k 0 = x at c HD
        clear t
        go_wp2_with fail
        refine Calls.mono HD.out ?_
        rintro e w' ⟨rfl, rfl⟩
        go_wp2
        go_round
        case rel => exact ⟨k + 1, by omega, by go_num, R⟩
        case measure => simp [intOf]; omega
    · obtain rfl : k = n := by omega
      have R : Hid (RunE xs k0 k) := ⟨hA.out.1, by rw [HX.out]; exact Nat.le_refl _, hA.out.2, fun h => by rw [HX.out] at h; omega⟩
      go_wp2
      go_ret
      exact ⟨k, rfl, R.out, rfl⟩

set_option maxRecDepth 100000 in
set_option maxHeartbeats 2000000 in
theorem numberEnd0 (w : World) (g off n cap : Nat) (xs : List Int) (hx : xs.length = n) (hn : n ≤ 1048576)
    (hc : ∀ k, k < n → w.cell? ⟨g, off + k, none⟩ = some (.int .u8 (xs.getD k 0))) :
    Calls Try.prog 112 #[.slice (some ⟨g, off, none⟩) n cap, .int .i64 0] w fun e w' => ∃ m : Nat, e = .returned (.int .i64 (m : Int)) ∧ NumE xs m ∧ m ≤ n ∧ w' = w := by
  have HC : Hid (∀ k, k < n → w.cell? ⟨g, off + k, none⟩ = some (.int .u8 (xs.getD k 0))) := hc
  have HX : Hid (xs.length = n) := hx
  have HR0 : Hid _ := runEndD w g off n cap 0 xs hx hn (Nat.zero_le _) hc
  have HR : Hid (∀ k0, k0 ≤ n → _) := fun k0 (h : k0 ≤ n) => runEndD w g off n cap k0 xs hx hn h hc
  rw [show ((0 : Nat) : Int) = 0 from rfl] at HR0
  clear hc hx
  go_enter Try.func112, Try.ntmps112
  go_wp2_with fail
  refine Calls.mono HR0.out ?_
  rintro e w' ⟨m, rfl, hr, rfl⟩
  have hml : m ≤ n := by have := hr.len; rw [HX.out] at this; exact this
  have HRR : Hid _ := hr
  clear hr HR0
  by_cases c1 : m + 1 < n
  · have d0 := HC.out m (by omega)
    have d1 := HC.out (m + 1) c1
    have t1 : (m : Int) + 1 < (n : Int) := by omega
    by_cases c2 : xs.getD m 0 = 46
    · rw [c2] at d0
      have HD : Hid _ := isDig (xs.getD (m + 1) 0) w'
      cases t : dig (xs.getD (m + 1) 0)
      · have R : Hid (NumE xs m) := ⟨m, HRR.out, .inr ⟨fun c => (by rw [t] at c; cases c.2.2), rfl⟩⟩
        rw [t] at HD
        generalize xs.getD (m + 1) 0 = x at d1 HD
        clear t c2
        go_wp2_with fail
        refine Calls.mono HD.out ?_
        rintro e w2 ⟨rfl, rfl⟩
        go_wp2
        go_ret
        exact ⟨m, rfl, R.out, hml, rfl⟩
      · have R : Hid (∀ e, RunE xs (m + 1) e → NumE xs e ∧ e ≤ n) := fun e he => ⟨⟨m, HRR.out, .inl ⟨by rw [HX.out]; exact c1, c2, t, he⟩⟩, by have := he.len; rw [HX.out] at this; exact this⟩
        have HR1 : Hid _ := HR.out (m + 1) (by omega)
        rw [show ((m + 1 : Nat) : Int) = (m : Int) + 1 by omega] at HR1
        rw [t] at HD
        generalize xs.getD (m + 1) 0 = x at d1 HD
        clear t c2
        go_wp2_with fail
        refine Calls.mono HD.out ?_
        rintro e w2 ⟨rfl, rfl⟩
        go_wp2_with fail
        refine Calls.mono HR1.out ?_
        rintro e w2 ⟨m2, rfl, hr2, rfl⟩
        have R2 : Hid _ := R.out m2 hr2
        clear hr2
        go_wp2
        go_ret
        exact ⟨m2, rfl, R2.out.1, R2.out.2, rfl⟩
    · have t2 : (xs.getD m 0 == 46) = false := beq_eq_false_iff_ne.2 c2
      have R : Hid (NumE xs m) := ⟨m, HRR.out, .inr ⟨fun c => c2 c.2.1, rfl⟩⟩
      generalize xs.getD m 0 = x at d0 t2
      clear c2 d1
      go_wp2
      go_ret
      exact ⟨m, rfl, R.out, hml, rfl⟩
  · have t1 : ¬ ((m : Int) + 1 < (n : Int)) := by omega
    have R : Hid (NumE xs m) := ⟨m, HRR.out, .inr ⟨fun c => by rw [HX.out] at c; exact c1 c.1, rfl⟩⟩
    go_wp2
    go_ret
    exact ⟨m, rfl, R.out, hml, rfl⟩

set_option maxHeartbeats 1000000 in
set_option maxRecDepth 100000 in
/-- The library's count of one byte in a string, met by the model's own entry. -/
theorem count1 (s : ByteArray) (c : UInt8) (w : World) :
    Calls Try.prog 137 #[.string s, .string ⟨#[c]⟩] w fun e w' => e = .returned (.int .i64 (Lib.countByte s.data.toList c)) ∧ w' = w := by
  go_enter Try.func137, Try.ntmps137
  go_wp2
  rw [run_callFunc_extern Try.func152 (by kernel_rfl) (by kernel_rfl) (by kernel_rfl) (e := Extern.BytealgCount.count) (by kernel_rfl), Lib.run_countString]
  simp only [Result.andThen]
  rw [Oper.upon_value]
  go_wp2
  go_ret
  exact ⟨rfl, rfl⟩
theorem u8_46 {x : Int} (h : 0 ≤ x ∧ x < 256) : (UInt8.ofNat x.toNat == 46) = (x == 46) := by
  obtain ⟨m, rfl⟩ := Int.eq_ofNat_of_zero_le h.1
  have hm : m < 256 := by omega
  rw [Bool.eq_iff_iff]
  simp only [beq_iff_eq, Int.toNat_natCast]
  constructor
  · intro e
    have := congrArg UInt8.toNat e
    simp [Nat.mod_eq_of_lt hm] at this
    omega
  · intro e
    have : m = 46 := by omega
    subst this; rfl
theorem countNums : ∀ (xs : List Int), (∀ x ∈ xs, 0 ≤ x ∧ x < 256) → Lib.countByte (strOfNums xs).data.toList 46 = ((xs.countP (· == 46) : Nat) : Int) := by
  intro xs h
  rw [strOfNums_data]
  unfold Lib.countByte
  congr 1
  induction xs with
  | nil => rfl
  | cons x r ih =>
    have h1 := u8_46 (h x (by simp))
    have h2 := ih fun y hy => h y (by simp [hy])
    rw [List.map_cons, List.count_cons, List.countP_cons, h2, h1]
set_option maxRecDepth 100000 in
set_option maxHeartbeats 2000000 in
theorem digitCount (xs : List Int) (w : World) (h : ∀ x ∈ xs, 0 ≤ x ∧ x < 256) (hn : xs.length ≤ 1048576) :
    Calls Try.prog 113 #[.string (strOfNums xs)] w fun e w' => e = .returned (.int .i64 ((xs.length : Int) - (xs.countP (· == 46) : Nat))) ∧ w' = w := by
  have HX : Hid _ := count1 (strOfNums xs) 46 w
  rw [countNums xs h] at HX
  have hs := strOfNums_size xs
  have hc : xs.countP (· == 46) ≤ xs.length := List.countP_le_length
  generalize xs.countP (· == 46) = c at HX hc ⊢
  generalize strOfNums xs = s at HX hs ⊢
  generalize xs.length = n at hs hc hn ⊢
  go_enter Try.func113, Try.ntmps113
  go_wp2_with fail
  refine Calls.mono HX.out ?_
  rintro e w' ⟨rfl, rfl⟩
  clear HX
  go_wp2
  go_ret
  exact ⟨by rw [← hs]; rfl, rfl⟩
end Go.Proofs.Ytpglbgejlpeckab
