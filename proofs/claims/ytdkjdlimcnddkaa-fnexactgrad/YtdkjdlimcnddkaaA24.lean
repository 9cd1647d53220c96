import Derived.Test.YtdkjdlimcnddkaaA23
namespace Go.Proofs.Ytdkjdlimcnddkaa
open Go.RowKit Flt
attribute [local go_sem] alloc_drewN setCell_drewN run_store_float run_store_func
/-- Is an operand active? -/
def reachB (act : List Bool) (v : Vl) : Bool := (List.range (cnt v.op)).any fun k => act.getD (fld v k).toNat false
theorem reach_snoc {act : List Bool} {v : Vl} {k : Nat} (h : ((List.range k).any fun k => act.getD (fld v k).toNat false) = false) (t : act.getD (fld v k).toNat false = false) : ((List.range (k + 1)).any fun k => act.getD (fld v k).toNat false) = false := by
  rw [List.range_succ, List.any_append, h]
  simp only [List.any_cons, List.any_nil, Bool.or_false, Bool.false_or]
  exact t
set_option maxRecDepth 100000 in
set_option maxHeartbeats 4000000 in
theorem reaches (W : World) (P K A S n : Nat) (u1 u3 rv vv : Value) (act : List Bool) (us : List Vl) (sl : List Int) (c : Int) (base : Nat) (R : Option Nat) (h : BS W P u1 u3 us c base R vv) (b : BK W K P A S n rv act sl) (i : Nat) (hi : i < us.length) (hn : us.length = n) (v : Vl) (hv : us.getD i Vl.zero = v) (hops : ∀ k, k < cnt v.op → 0 ≤ fld v k ∧ fld v k < i) :
    Calls Try.prog 129 #[.pointer (some ⟨K, 0, none⟩), .int .i64 (i : Int)] W fun e w' => e = .returned (.bool (reachB act v)) ∧ Kept 0 0 W w' := by
  obtain ⟨g, cap, rfl, _, hgl, _, hva⟩ := row_at h.own (by omega) rfl
  have hat := hva.at_ i hi
  rw [hv] at hat
  obtain ⟨a0, a1, a2, a3, a4, a5⟩ := hat
  have y0 := b.c0
  have y1 := b.c1
  have p1 := h.c1
  rw [hn] at p1 hi
  have hi1 : (0 : Int) ≤ (i : Int) := by omega
  have hi2 : (i : Int) < (n : Int) := by omega
  have HB : Hid _ := b
  have HOP : Hid _ := hops
  clear h b hva hgl hv hops
  go_enter Try.func129, Try.ntmps129
  go_wp2_with fail
  clear a0 a1 a2 a3 a4 a5 y0 y1 p1
  refine Calls.mono (operandsOf W v) ?_
  rintro e w4 ⟨g5, rfl, i5, hg5, k5⟩
  obtain ⟨m, hm⟩ : ∃ m, m = cnt v.op := ⟨_, rfl⟩
  have HM : Hid _ := hm
  have hm3 : m ≤ 3 := by have := cnt_le v.op; omega
  have HI : Hid (∀ q, q < m → w4.cell? ⟨g5, q, none⟩ = some (.int .i64 (fld v q))) := fun q hq => by
    rcases i5.at_ with z0 | ⟨gi, oi, ei, _, _, _, ci⟩
    · omega
    · injection ei with ei
      injection ei with ei1 ei2
      subst ei1 ei2
      have := ci q (by omega)
      rw [Nat.zero_add, opsOf_fld v (by omega)] at this
      exact this
  have HB4 : Hid _ := HB.out.keep k5
  have HK4 : Hid _ := k5
  rw [← hm]
  clear i5 hg5 k5 hm HB
  go_wp2_with fail
  go_loop [20] (fun x => ∃ k : Nat, k ≤ m ∧ x = .int .i64 k ∧ Hid (((List.range k).any fun k => act.getD (fld v k).toNat false) = false)) (fun x => m - (intOf x).toNat)
  case atStart => exact ⟨0, Nat.zero_le _, rfl, rfl⟩
  case round =>
    obtain ⟨k, hk, rfl, hA⟩ := hrel
    by_cases hlt : k < m
    · have c := HI.out k hlt
      have hop := HOP.out k (by rw [← HM.out]; exact hlt)
      obtain ⟨o, ho⟩ := Int.eq_ofNat_of_zero_le hop.1
      rw [ho] at c
      have cA := BR.cell HB4.out.ac o (by rw [HB4.out.al]; omega)
      have y1 := HB4.out.c1
      have ho1 : (0 : Int) ≤ (o : Int) := by omega
      have ho2 : (o : Int) < (n : Int) := by omega
      cases t : act.getD o false
      · have R2 : Hid _ := reach_snoc hA.out (show act.getD (fld v k).toNat false = false by rw [ho, Int.toNat_natCast]; exact t)
        rw [t] at cA
        clear hA hop ho
        go_wp2_with fail
        go_round
        case rel => exact ⟨k + 1, by omega, by go_num, R2⟩
        case measure => simp [intOf]; omega
      · have R2 : Hid (reachB act v = true) := by
          show _ = _
          unfold reachB
          rw [List.any_eq_true]
          exact ⟨k, List.mem_range.2 (by rw [← HM.out]; exact hlt), by rw [ho, Int.toNat_natCast]; exact t⟩
        rw [t] at cA
        clear hA hop ho
        go_wp2_with fail
        go_ret
        exact ⟨congrArg (fun x => Ending.returned (.bool x)) R2.out.symm, HK4.out⟩
    · have R2 : Hid (reachB act v = false) := by
        have := hA.out
        rw [show k = m by omega, HM.out] at this
        exact this
      clear hA
      go_wp2_with fail
      go_ret
      exact ⟨congrArg (fun x => Ending.returned (.bool x)) R2.out.symm, HK4.out⟩
/-- What ruleOf answers. -/
def RuO (W : World) (P K : Nat) (vs0 : List Vl) (i : Nat) (e : Ending) (w' : World) : Prop :=
  ∃ xw xi xo xp go a mp cp fv, e = .returned (.func (.func 158) #[] #[.pointer (some ⟨xw, 0, none⟩), .pointer (some ⟨xi, 0, none⟩), .pointer (some ⟨xo, 0, none⟩), .pointer (some ⟨xp, 0, none⟩)]) ∧ RuleIn w' W.heap.size w'.heap.size P K vs0 i xw xi xo xp go a mp cp fv ∧ Kept 0 0 W w'
end Go.Proofs.Ytdkjdlimcnddkaa

namespace Go.Proofs.Ytdkjdlimcnddkaa
open Go.RowKit Flt
attribute [local go_sem] alloc_drewN setCell_drewN run_store_float run_store_func
abbrev sbox (t : TypeId) (u : Value) : Obj := .cells #[u] t
theorem Bx.chg {W0 W1 : World} {Q : Nat → Prop} {lo b : Nat} {u : Value} (x : Bx W0 lo W0.heap.size b u) (k : Chg Q W0 W1) (h : ¬ Q b) : Bx W1 lo W1.heap.size b u :=
  ⟨x.lo_, Nat.lt_of_lt_of_le x.hi_ k.size, by rw [k.cell (p := ⟨b, 0, none⟩) x.hi_ h]; exact x.at_⟩
theorem box_new (w : World) (lo : Nat) (h : lo ≤ w.heap.size) (t : TypeId) (u : Value) : Bx (w.alloc (sbox t u)) lo (w.alloc (sbox t u)).heap.size w.heap.size u :=
  ⟨h, by simp, by rw [World.cell?_alloc_at _ _ w.heap.size 0 rfl]; rfl⟩
/-- What ruleOf holds of its first two boxes and the operands. -/
structure RO1 (w wx : World) (K i : Nat) (v : Vl) (xo go : Nat) : Prop where
  bw : Bx wx w.heap.size wx.heap.size w.heap.size (.pointer (some ⟨K, 0, none⟩))
  bi : Bx wx w.heap.size wx.heap.size (w.heap.size + 1) (.int .i64 (i : Int))
  bo : Bx wx w.heap.size wx.heap.size xo (.slice (some ⟨go, 0, none⟩) (cnt v.op) 3)
  go_ : ∀ k, k < cnt v.op → w.heap.size ≤ go ∧ go < wx.heap.size ∧ wx.cell? ⟨go, k, none⟩ = some (.int .i64 (fld v k))
  kp : Kept 0 0 w wx
theorem RO1.chg {w wx wy : World} {Q : Nat → Prop} {K i : Nat} {v : Vl} {xo go : Nat} (f : RO1 w wx K i v xo go) (k : Chg Q wx wy) (hQ : ∀ b, Q b → wx.heap.size ≤ b) : RO1 w wy K i v xo go :=
  ⟨f.bw.chg k (fun c => by have := hQ _ c; have := f.bw.hi_; omega), f.bi.chg k (fun c => by have := hQ _ c; have := f.bi.hi_; omega), f.bo.chg k (fun c => by have := hQ _ c; have := f.bo.hi_; omega), fun q hq => by
    obtain ⟨a1, a2, a3⟩ := f.go_ q hq
    exact ⟨a1, Nat.lt_of_lt_of_le a2 k.size, by rw [k.cell (p := ⟨go, q, none⟩) a2 (fun c => by have := hQ go c; omega)]; exact a3⟩, Chg.kept f.kp k (fun b hb => by have := hQ b hb; have := f.kp.size; omega)⟩
theorem ops_read {w w2 : World} {g5 : Nat} {v : Vl} (i5 : IS w2 w.heap.size w2.heap.size (some ⟨g5, 0, none⟩) (cnt v.op) (opsOf v)) : ∀ k, k < cnt v.op → w.heap.size ≤ g5 ∧ g5 < w2.heap.size ∧ w2.cell? ⟨g5, k, none⟩ = some (.int .i64 (fld v k)) := fun q hq => by
  rcases i5.at_ with z0 | ⟨gi, oi, ei, h1, h2, _, ci⟩
  · omega
  · injection ei with ei
    injection ei with ei1 ei2
    subst ei1 ei2
    have := ci q hq
    rw [Nat.zero_add, opsOf_fld v hq] at this
    exact ⟨h1, h2, this⟩
set_option maxRecDepth 100000 in
set_option maxHeartbeats 8000000 in
theorem ruleOf (w : World) (P K A S n : Nat) (u1 u3 rv vv : Value) (act : List Bool) (vs0 : List Vl) (sl : List Int) (base : Nat) (R : Option Nat) (h : BS w P u1 u3 vs0 (cellsV vs0) base R vv) (b : BK w K P A S n rv act sl) (hn : vs0.length = n) (hl : n ≤ 2000) (i : Nat) (hi : i < n) (n0 : 1 ≤ (vs0.getD i Vl.zero).len) (n1 : (vs0.getD i Vl.zero).len ≤ 1000) (hop : 0 ≤ (vs0.getD i Vl.zero).op ∧ (vs0.getD i Vl.zero).op ≤ 13)
    (hA : ((vs0.getD i Vl.zero).op = 9 ∨ (vs0.getD i Vl.zero).op = 11) → ∃ j : Nat, (vs0.getD i Vl.zero).a = (j : Int) ∧ j < vs0.length ∧ (vs0.getD j Vl.zero).len = laM vs0 i ∧ 1 ≤ laM vs0 i ∧ laM vs0 i ≤ 1000) :
    Calls Try.prog 130 #[.pointer (some ⟨K, 0, none⟩), .int .i64 (i : Int)] w fun e w' => RuO w P K vs0 i e w' := by
  obtain ⟨g, cap, rfl, _, hgl, _, hva⟩ := row_at h.own (by omega) rfl
  have ka := kept_alloc 0 0 w (sbox 128 (.pointer (some ⟨K, 0, none⟩)))
  have kb := kept_alloc 0 0 (w.alloc (sbox 128 (.pointer (some ⟨K, 0, none⟩)))) (sbox 3 (.int .i64 (i : Int)))
  have z1 : (w.alloc (sbox 128 (.pointer (some ⟨K, 0, none⟩)))).heap.size = w.heap.size + 1 := by simp
  have z2 : ((w.alloc (sbox 128 (.pointer (some ⟨K, 0, none⟩)))).alloc (sbox 3 (.int .i64 (i : Int)))).heap.size = w.heap.size + 2 := by simp
  have HBW : Hid _ := (box_new w w.heap.size (Nat.le_refl _) 128 (.pointer (some ⟨K, 0, none⟩))).chg (kb.chg (S := fun _ => False)) (fun h => h)
  have hBI := box_new (w.alloc (sbox 128 (.pointer (some ⟨K, 0, none⟩)))) w.heap.size (by omega) 3 (.int .i64 (i : Int))
  rw [z1] at hBI
  have HBI : Hid _ := hBI
  have HK1 : Hid _ := ka.trans kb
  have HZ1 : Hid _ := z2
  have HBS : Hid _ := BS.keep h (ka.trans kb)
  have HBK : Hid _ := b.keep (ka.trans kb)
  have HA1 : Hid (At ((w.alloc (sbox 128 (.pointer (some ⟨K, 0, none⟩)))).alloc (sbox 3 (.int .i64 (i : Int)))) g (i * 6) (vs0.getD i Vl.zero)) := (hva.at_ i (by omega)).keep hgl (ka.trans kb) (.inr (.inr (Nat.le_refl _)))
  have HGL : Hid (g < w.heap.size ∧ P < w.heap.size ∧ K < w.heap.size) := ⟨hgl, h.lt, b.lt⟩
  have HK0 : Hid _ := b.c0
  have HPO : Hid (∀ W', Kept 0 0 w W' → _) := fun W' (kW : Kept 0 0 w W') => partsOf W' P u1 u3 vs0 (cellsV vs0) base R _ (BS.keep h kW) (by omega) vs0 i (by omega) _ rfl (laM vs0 i) n0 n1 hop hA
  have HNN : Hid (vs0.length = n) := hn
  have hi1 : (0 : Int) ≤ (i : Int) := by omega
  have hi2 : (i : Int) < (n : Int) := by omega
  generalize hve : vs0.getD i Vl.zero = v at HA1 HPO n0 n1 hop hA
  have HVE : Hid _ := hve
  clear h b hva hgl ka kb z1 z2 hBI hA hve n0 n1 hop
  go_enter Try.func130, Try.ntmps130
  go_upto_region 1 with fail
  generalize (w.alloc (sbox 128 (.pointer (some ⟨K, 0, none⟩)))).alloc (sbox 3 (.int .i64 (i : Int))) = w1 at HBW HBI HK1 HZ1 HBS HBK HA1 ⊢
  go_cut [5] (fun p wx => ∃ xo go : Nat, p = .pointer (some ⟨xo, 0, none⟩) ∧ Hid (RO1 w wx K i v xo go))
  case first =>
    have x0 := HBW.out.at_
    have x1 := HBI.out.at_
    have y0 := HBK.out.c0
    have y1 := HBS.out.c1
    rw [HNN.out] at y1
    obtain ⟨a0, a1, a2, a3, a4, a5⟩ := HA1.out
    have hz := HZ1.out
    have hg := HGL.out
    have kz' : ∀ w', Kept 0 0 w1 w' → ∀ b o, b < w.heap.size + 2 → w'.cell? ⟨b, o, none⟩ = w1.cell? ⟨b, o, none⟩ := fun w' kw b o hb => kw.cell (p := ⟨b, o, none⟩) (by show b < _; omega) (by omega)
    have HSS : Hid (∀ w', Kept 0 0 w1 w' → w'.cell? ⟨w.heap.size, 0, none⟩ = some (.pointer (some ⟨K, 0, none⟩)) ∧ w'.cell? ⟨w.heap.size + 1, 0, none⟩ = some (.int .i64 (i : Int)) ∧ w'.cell? ⟨K, 0, none⟩ = some (.pointer (some ⟨P, 0, none⟩)) ∧ w'.cell? ⟨P, 1, none⟩ = some (.slice (some ⟨g, 0, none⟩) n cap) ∧ w'.cell? ⟨g, i * 6, none⟩ = some (.int .i64 v.op) ∧ w'.cell? ⟨g, i * 6 + 1, none⟩ = some (.int .i64 v.len) ∧ w'.cell? ⟨g, i * 6 + 2, none⟩ = some (.int .i64 v.a) ∧ w'.cell? ⟨g, i * 6 + 3, none⟩ = some (.int .i64 v.b) ∧ w'.cell? ⟨g, i * 6 + 4, none⟩ = some (.int .i64 v.c) ∧ w'.cell? ⟨g, i * 6 + 5, none⟩ = some (.float .f64 v.k)) := fun w' kw => ⟨(kz' w' kw w.heap.size 0 (by omega)).trans x0, (kz' w' kw (w.heap.size + 1) 0 (by omega)).trans x1, (kz' w' kw K 0 (by omega)).trans y0, (kz' w' kw P 1 (by omega)).trans y1, (kz' w' kw g (i * 6) (by omega)).trans a0, (kz' w' kw g (i * 6 + 1) (by omega)).trans a1, (kz' w' kw g (i * 6 + 2) (by omega)).trans a2, (kz' w' kw g (i * 6 + 3) (by omega)).trans a3, (kz' w' kw g (i * 6 + 4) (by omega)).trans a4, (kz' w' kw g (i * 6 + 5) (by omega)).trans a5⟩
    have HX1 : Hid (∀ w2 g5, Kept 0 0 w1 w2 → (∀ k, k < cnt v.op → w.heap.size ≤ g5 ∧ g5 < w2.heap.size ∧ w2.cell? ⟨g5, k, none⟩ = some (.int .i64 (fld v k))) → ∀ xo, Bx w2 w.heap.size w2.heap.size xo (.slice (some ⟨g5, 0, none⟩) (cnt v.op) 3) → RO1 w w2 K i v xo g5) := fun w2 g5 k hg xo hx =>
      ⟨HBW.out.chg (k.chg (S := fun _ => False)) (fun h => h), HBI.out.chg (k.chg (S := fun _ => False)) (fun h => h), hx, hg, HK1.out.trans k⟩
    have HB0 : Hid (∀ w2, Kept 0 0 (w1.alloc (sbox 22 (.slice none 0 0))) w2 → w2.cell? ⟨w1.heap.size, 0, none⟩ = some (.slice none 0 0) ∧ w2.frozen? ⟨w1.heap.size, 0, none⟩ = false) := fun w2 k => ⟨by rw [k.cell (p := ⟨w1.heap.size, 0, none⟩) (by simp) (by omega), World.cell?_alloc_at _ _ w1.heap.size 0 rfl]; rfl, by rw [k.frozen (p := ⟨w1.heap.size, 0, none⟩) (by simp) (by omega)]; exact World.frozen?_alloc_at _ _ w1.heap.size 0 rfl⟩
    clear hg kz' hz
    go_region_held3 (fun w' => w'.cell? ⟨w.heap.size, 0, none⟩ = some (.pointer (some ⟨K, 0, none⟩)) ∧ w'.cell? ⟨w.heap.size + 1, 0, none⟩ = some (.int .i64 (i : Int)) ∧ w'.cell? ⟨K, 0, none⟩ = some (.pointer (some ⟨P, 0, none⟩)) ∧ w'.cell? ⟨P, 1, none⟩ = some (.slice (some ⟨g, 0, none⟩) n cap) ∧ w'.cell? ⟨g, i * 6, none⟩ = some (.int .i64 v.op) ∧ w'.cell? ⟨g, i * 6 + 1, none⟩ = some (.int .i64 v.len) ∧ w'.cell? ⟨g, i * 6 + 2, none⟩ = some (.int .i64 v.a) ∧ w'.cell? ⟨g, i * 6 + 3, none⟩ = some (.int .i64 v.b) ∧ w'.cell? ⟨g, i * 6 + 4, none⟩ = some (.int .i64 v.c) ∧ w'.cell? ⟨g, i * 6 + 5, none⟩ = some (.float .f64 v.k)) (first | go_keep | exact HSS.out _ ((kept_drew w1).trans (kept_alloc 0 0 _ _)) | exact HSS.out _ ((kept_alloc 0 0 w1 _).trans (kept_drew _)) | exact HSS.out _ (((kept_alloc 0 0 w1 _).trans kk).new (kept_setCell (lo := w1.heap.size) (hi := w1.heap.size + 1) w2 ⟨w1.heap.size, 0, none⟩ _ (.inl ⟨Nat.le_refl _, Nat.lt_succ_self _⟩)) (Nat.le_refl _))) (first
      | (go_at_call 103; first
        | (refine Calls.mono (operandsOf w1.drew v) ?_; rintro e w2 ⟨g5, rfl, i5, hg5, k5⟩; have kk : Kept 0 0 w1 w2 := (kept_drew w1).trans k5; have ho := ops_read i5; obtain ⟨q0, q1, q2, q3, q4, q5, q6, q7, q8, q9⟩ := HSS.out w2 kk)
        | (refine Calls.mono (operandsOf (w1.alloc (sbox 22 (.slice none 0 0))).drew v) ?_; rintro e w2 ⟨g5, rfl, i5, hg5, k5⟩; have kk : Kept 0 0 (w1.alloc (sbox 22 (.slice none 0 0))) w2 := (kept_drew _).trans k5; have ho := ops_read i5; obtain ⟨b0, bf⟩ := HB0.out w2 kk; obtain ⟨q0, q1, q2, q3, q4, q5, q6, q7, q8, q9⟩ := HSS.out w2 ((kept_alloc 0 0 w1 _).trans kk))))
    all_goals
      first
      | (have R1 : Hid (RO1 w (w2.alloc (sbox 22 (.slice (some ⟨g5, 0, none⟩) (cnt v.op) 3))) K i v w2.heap.size g5) := HX1.out _ g5 (kk.trans (kept_alloc 0 0 w2 _)) (fun q hq => by
           obtain ⟨h1, h2, h3⟩ := ho q hq
           exact ⟨by have := HZ1.out; have h1' : w1.heap.size ≤ g5 := h1; omega, by simp; omega, by rw [(kept_alloc 0 0 w2 _).cell (p := ⟨g5, q, none⟩) h2 (by omega)]; exact h3⟩) _ (box_new w2 w.heap.size (by have := HK1.out.size; have := kk.size; omega) _ _)
         clear HX1 HB0 HSS ho i5 hg5 k5 kk x0 x1 y0 y1 a0 a1 a2 a3 a4 a5
         go_wp2_with fail
         go_meet
         exact ⟨_, _, rfl, R1⟩)
      | (have R1 : Hid (RO1 w (w2.setCell ⟨w1.heap.size, 0, none⟩ (.slice (some ⟨g5, 0, none⟩) (cnt v.op) 3)) K i v w1.heap.size g5) := HX1.out _ g5 (((kept_alloc 0 0 w1 _).trans kk).new (kept_setCell (lo := w1.heap.size) (hi := w1.heap.size + 1) w2 ⟨w1.heap.size, 0, none⟩ _ (.inl ⟨Nat.le_refl _, Nat.lt_succ_self _⟩)) (Nat.le_refl _)) (fun q hq => by
           obtain ⟨h1, h2, h3⟩ := ho q hq
           have h1' : (w1.alloc (sbox 22 (.slice none 0 0))).heap.size ≤ g5 := h1
           simp at h1'
           exact ⟨by have := HZ1.out; omega, by simpa using h2, by rw [cell_ne _ _ _ _ _ _ (.inl (by omega))]; exact h3⟩) _ ⟨by have := HK1.out.size; omega, by have h := kk.size; simp at h ⊢; omega, cell_eq _ _ _ _ _ b0⟩
         clear HX1 HB0 HSS ho i5 hg5 k5 kk x0 x1 y0 y1 a0 a1 a2 a3 a4 a5
         go_wp2_with fail
         go_meet
         exact ⟨_, _, rfl, R1⟩)
  case rest =>
    obtain ⟨xo, go, rfl, hR⟩ := hcut
    have HSS : Hid (∀ w', Kept 0 0 wc w' → w'.cell? ⟨w.heap.size, 0, none⟩ = some (.pointer (some ⟨K, 0, none⟩)) ∧ w'.cell? ⟨w.heap.size + 1, 0, none⟩ = some (.int .i64 (i : Int)) ∧ w'.cell? ⟨K, 0, none⟩ = some (.pointer (some ⟨P, 0, none⟩))) := fun w' kw => ⟨by rw [kw.cell (p := ⟨w.heap.size, 0, none⟩) hR.out.bw.hi_ (by omega)]; exact hR.out.bw.at_, by rw [kw.cell (p := ⟨w.heap.size + 1, 0, none⟩) hR.out.bi.hi_ (by omega)]; exact hR.out.bi.at_, by rw [(hR.out.kp.trans kw).cell (p := ⟨K, 0, none⟩) HGL.out.2.2 (by omega)]; exact HK0.out⟩
    obtain ⟨x0, x1, y0⟩ := HSS.out wc (Kept.refl _ _ _)
    have HB0 : Hid (∀ w2, Kept 0 0 (wc.alloc (sbox 197 (.slice none 0 0))) w2 → w2.cell? ⟨wc.heap.size, 0, none⟩ = some (.slice none 0 0) ∧ w2.frozen? ⟨wc.heap.size, 0, none⟩ = false) := fun w2 k => ⟨by rw [k.cell (p := ⟨wc.heap.size, 0, none⟩) (by simp) (by omega), World.cell?_alloc_at _ _ wc.heap.size 0 rfl]; rfl, by rw [k.frozen (p := ⟨wc.heap.size, 0, none⟩) (by simp) (by omega)]; exact World.frozen?_alloc_at _ _ wc.heap.size 0 rfl⟩
    have hbw := hR.out.bw.hi_
    have hbi := hR.out.bi.hi_
    have HRF : Hid (∀ wy (Q : Nat → Prop), Chg Q wc wy → (∀ b, Q b → wc.heap.size ≤ b) → ∀ xp a mp cp fv, Bx wy w.heap.size wy.heap.size xp (.slice a mp cp) → cnt v.op ≤ mp → Pts wy w.heap.size wy.heap.size P vs0 (i : Int) v (laM vs0 i) a fv → RuO w P K vs0 i (.returned (.func (.func 158) #[] #[.pointer (some ⟨w.heap.size, 0, none⟩), .pointer (some ⟨w.heap.size + 1, 0, none⟩), .pointer (some ⟨xo, 0, none⟩), .pointer (some ⟨xp, 0, none⟩)])) wy) := fun wy Q k hQ xp a mp cp fv hx hm hp => by
      have r := hR.out.chg k hQ
      refine ⟨_, _, _, _, go, a, mp, cp, fv, rfl, ⟨r.bw, r.bi, ?_, ?_, hx, ?_, ?_⟩, r.kp⟩
      · rw [HVE.out]; exact r.bo
      · rw [HVE.out]; exact r.go_
      · rw [HVE.out]; exact hm
      · rw [HVE.out]; exact hp
    have HKW : Hid (Kept 0 0 w wc) := hR.out.kp
    have hmf : ∀ (fn : Fn) (first cap : Array Value) (w : World), (Instr.makeFunc fn first cap).run Try.prog w = .ok (.func fn first cap) w := fun _ _ _ _ => rfl
    clear hR HBW HBI HBS HBK HA1
    go_wp2_with fail
    go_region_held3 (fun w' => w'.cell? ⟨w.heap.size, 0, none⟩ = some (.pointer (some ⟨K, 0, none⟩)) ∧ w'.cell? ⟨w.heap.size + 1, 0, none⟩ = some (.int .i64 (i : Int)) ∧ w'.cell? ⟨K, 0, none⟩ = some (.pointer (some ⟨P, 0, none⟩))) (first | go_keep | exact HSS.out _ ((kept_drew wc).trans (kept_alloc 0 0 _ _)) | exact HSS.out _ ((kept_alloc 0 0 wc _).trans (kept_drew _)) | exact HSS.out _ (((kept_alloc 0 0 wc _).trans kk).new (kept_setCell (lo := wc.heap.size) (hi := wc.heap.size + 1) w2 ⟨wc.heap.size, 0, none⟩ _ (.inl ⟨Nat.le_refl _, Nat.lt_succ_self _⟩)) (Nat.le_refl _))) (first
      | (go_at_call 157; first
        | (refine Calls.mono (HPO.out wc.drew (HKW.out.trans (kept_drew wc))) ?_; rintro e w2 ⟨a2, m2, c2, fv2, rfl, hc2, hp2, k5⟩; have kk : Kept 0 0 wc w2 := (kept_drew wc).trans k5; obtain ⟨q0, q1, q2⟩ := HSS.out w2 kk)
        | (refine Calls.mono (HPO.out (wc.alloc (sbox 197 (.slice none 0 0))).drew (HKW.out.trans ((kept_alloc 0 0 wc _).trans (kept_drew _)))) ?_; rintro e w2 ⟨a2, m2, c2, fv2, rfl, hc2, hp2, k5⟩; have kk : Kept 0 0 (wc.alloc (sbox 197 (.slice none 0 0))) w2 := (kept_drew _).trans k5; obtain ⟨b0, bf⟩ := HB0.out w2 kk; obtain ⟨q0, q1, q2⟩ := HSS.out w2 ((kept_alloc 0 0 wc _).trans kk))))
    all_goals
      first
      | (have R1 : Hid _ := HRF.out (w2.alloc (sbox 197 (.slice a2 m2 c2))) (fun _ => False) (kk.trans (kept_alloc 0 0 w2 _)).chg (fun _ h => h.elim) w2.heap.size a2 m2 c2 fv2 (box_new w2 w.heap.size (by have := HKW.out.size; have := kk.size; omega) _ _) hc2 (hp2.mono ((Same.refl (Nat.le_refl _)).chg ((kept_alloc 0 0 w2 _).chg (S := fun _ => False)) (fun _ _ _ h => h)) HKW.out.size (kept_alloc 0 0 w2 _).size)
         clear HRF HSS HB0 HPO hp2 kk k5 x0 x1 y0 hbw hbi
         go_wp2_with fail
         go_ret
         exact R1.out)
      | (have R1 : Hid _ := HRF.out (w2.setCell ⟨wc.heap.size, 0, none⟩ (.slice a2 m2 c2)) (fun b => b = wc.heap.size) (Chg.andThen ((kept_alloc 0 0 wc _).trans kk).chg (chg_setCell w2 wc.heap.size 0 _ rfl)) (fun b h => by omega) wc.heap.size a2 m2 c2 fv2 ⟨HKW.out.size, by have h := kk.size; simp at h ⊢; omega, cell_eq _ _ _ _ _ b0⟩ hc2 (hp2.mono (lo' := w.heap.size) (hi' := (w2.setCell ⟨wc.heap.size, 0, none⟩ (.slice a2 m2 c2)).heap.size) ((Same.refl (Nat.le_refl _)).chg (chg_setCell (S := fun b => b = wc.heap.size) w2 wc.heap.size 0 (.slice a2 m2 c2) rfl) (fun b h1 _ e => by have h1' : (wc.alloc (sbox 197 (.slice none 0 0))).heap.size ≤ b := h1; simp at h1'; omega)) (by have h1 := HKW.out.size; show w.heap.size ≤ (wc.alloc _).heap.size; simp; omega) (by simp))
         clear HRF HSS HB0 HPO hp2 kk k5 x0 x1 y0 hbw hbi
         go_wp2_with fail
         go_ret
         exact R1.out)
end Go.Proofs.Ytdkjdlimcnddkaa
