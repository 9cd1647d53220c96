import Derived.Test.YtdkjdlimcnddkaaA50
import Derived.Test.YtdkjdlimcnddkaaA36
import Derived.Test.YtdkjdlimcnddkaaA34
import Derived.Test.YtdkjdlimcnddkaaA29
import Derived.Test.YtdkjdlimcnddkaaA09
import Derived.Test.YtdkjdlimcnddkaaA10
import Derived.Deep.RegionWith
import Derived.Deep.DeepCutAuto
namespace Go.Proofs.Ytdkjdlimcnddkaa
open Go.RowKit Flt
attribute [local go_sem] alloc_drewN setCell_drewN run_store_float

/-! What both Plans answer, field by field. -/
def pkM (vs : List Vl) (outs : List Int) : Int := peakTo vs (plTo vs outs vs.length) vs.length
def pOK (ins : List Int) (vs : List Vl) (outs : List Int) (bud : Int) : Bool := okG ins vs outs && decide (¬ bud < pkM vs outs)
def qI (ins : List Int) (vs : List Vl) (outs : List Int) (bud : Int) : List Int := if pOK ins vs outs bud = true then ins else []
def qS (ins : List Int) (vs : List Vl) (outs : List Int) (bud : Int) : List Ste := if pOK ins vs outs bud = true then stesTo vs (plTo vs outs vs.length) vs.length else []
def qO (ins : List Int) (vs : List Vl) (outs : List Int) (bud : Int) : List Spn := if pOK ins vs outs bud = true then outs.map (spnM vs (plTo vs outs vs.length)) else []
def qP (ins : List Int) (vs : List Vl) (outs : List Int) (bud : Int) : Int := if pOK ins vs outs bud = true then pkM vs outs else 0
def qC (ins : List Int) (vs : List Vl) (outs : List Int) (bud : Int) : Int := if okG ins vs outs = false then 1 else if bud < pkM vs outs then 7 else 0
def PLu (w : World) (uI : List Int) (uS : List Ste) (uO : List Spn) (uP uC : Int) (e : Ending) (w' : World) : Prop :=
  ∃ a1 d1 a2 d2 a3 d3, e = .returned (.tuple #[cagg a1 uI.length d1 a2 uS.length d2 a3 uO.length d3 uP, .int .i64 uC]) ∧ OCd w' w.heap.size (.slice a1 uI.length d1) (.slice a2 uS.length d2) (.slice a3 uO.length d3) uI uS uO ∧ Kept 0 0 w w'
def PLv (w : World) (uI : List Int) (uS : List Ste) (uO : List Spn) (uP uC : Int) (e : Ending) (w' : World) : Prop :=
  ∃ a1 d1 a2 d2 a3 d3, e = .returned (.tuple #[cagg a1 uI.length d1 a2 uS.length d2 a3 uO.length d3 uP, .int .i64 uC]) ∧ CS w' a1 uI.length a2 uS.length a3 uO.length uI uS uO ∧ Kept 0 0 w w'
theorem ocd_nil (W : World) (B : Nat) : OCd W B (.slice none 0 0) (.slice none 0 0) (.slice none 0 0) [] [] [] :=
  ⟨World.ownsRow_nil _ _ _ _, World.ownsRow_nil _ _ _ _, World.ownsRow_nil _ _ _ _, fun g h => by simp [Value.ownBlock] at h, fun g h => by simp [Value.ownBlock] at h, fun g h => by simp [Value.ownBlock] at h, fun v h => by cases h⟩
theorem cs_nil (W : World) : CS W none 0 none 0 none 0 [] [] [] := (ocd_nil W 0).cs rfl rfl rfl
theorem q_len (ins : List Int) (vs : List Vl) (outs : List Int) (bud : Int) : (qI ins vs outs bud).length ≤ 1048576 ∧ (qS ins vs outs bud).length ≤ 1048576 ∧ (qO ins vs outs bud).length ≤ 1048576 := by
  unfold qI qS qO
  cases h : pOK ins vs outs bud
  · simp
  · unfold pOK at h
    rw [Bool.and_eq_true] at h
    obtain ⟨⟨hl1, hl2, hl3⟩, _⟩ := okG_parts h.1
    rw [if_pos rfl, if_pos rfl, if_pos rfl, stesTo_len, List.length_map]
    omega
theorem implPl (w : World) (lo g1 g2 g3 n1 c1 n2 c2 n3 c3 : Nat) (bud : Int) (ins : List Int) (vs : List Vl) (outs : List Int) (hO : GO w lo g1 g2 g3 n2 ins vs outs) (h1 : ins.length = n1) (h3 : outs.length = n3) (hlt : ∀ v ∈ vs, v.k < 18446744073709551616) :
    Calls Try.prog 15 #[gagg (some ⟨g1, 0, none⟩) n1 c1 (some ⟨g2, 0, none⟩) n2 c2 (some ⟨g3, 0, none⟩) n3 c3, .int .i64 bud] w fun e w' => PLu w (qI ins vs outs bud) (qS ins vs outs bud) (qO ins vs outs bud) (qP ins vs outs bud) (qC ins vs outs bud) e w' := by
  have hG := hO.gs hlt
  rw [h1, h3] at hG
  have hvl : vs.length = n2 := hG.v.len
  unfold qI qS qO qP qC
  cases hok : okG ins vs outs
  · have hp : pOK ins vs outs bud = false := by unfold pOK; rw [hok]; rfl
    rw [hp, if_neg (by simp), if_neg (by simp), if_neg (by simp), if_neg (by simp), if_pos rfl]
    refine (implPlan_bad w _ _ _ n1 c1 n2 c2 n3 c3 bud ins vs outs hG hok).mono ?_
    rintro e w' ⟨rfl, k⟩
    exact ⟨none, 0, none, 0, none, 0, rfl, ocd_nil _ _, k⟩
  · refine (implPlan_in w g1 _ _ n1 c1 n2 c2 n3 c3 bud ins vs outs hG hO.i hok).mono ?_
    rintro e w' ⟨ha, hb, k⟩
    rw [← hvl] at ha hb
    by_cases hlt2 : bud < pkM vs outs
    · have hp : pOK ins vs outs bud = false := by unfold pOK; rw [hok, decide_eq_false (fun h => h hlt2)]; rfl
      rw [hp, if_neg (by simp), if_neg (by simp), if_neg (by simp), if_neg (by simp), if_neg (by simp), if_pos hlt2]
      exact ⟨none, 0, none, 0, none, 0, ha hlt2, ocd_nil _ _, k⟩
    · have hp : pOK ins vs outs bud = true := by unfold pOK; rw [hok, decide_eq_true hlt2]; rfl
      rw [hp, if_pos rfl, if_pos rfl, if_pos rfl, if_pos rfl, if_neg (by simp), if_neg hlt2]
      obtain ⟨a1, d1, a2, d2, a3, d3, e1, e2⟩ := hb hlt2
      unfold PLu
      rw [stesTo_len, List.length_map, h1, h3]
      exact ⟨a1, d1, a2, d2, a3, d3, e1, e2, k⟩
theorem specPl (w : World) (lo g1 g2 g3 n1 c1 n2 c2 n3 c3 : Nat) (bud : Int) (ins : List Int) (vs : List Vl) (outs : List Int) (hO : GO w lo g1 g2 g3 n2 ins vs outs) (h1 : ins.length = n1) (h3 : outs.length = n3) (hlt : ∀ v ∈ vs, v.k < 18446744073709551616) :
    Calls Try.prog 14 #[gagg (some ⟨g1, 0, none⟩) n1 c1 (some ⟨g2, 0, none⟩) n2 c2 (some ⟨g3, 0, none⟩) n3 c3, .int .i64 bud] w fun e w' => PLv w (qI ins vs outs bud) (qS ins vs outs bud) (qO ins vs outs bud) (qP ins vs outs bud) (qC ins vs outs bud) e w' := by
  have hG := hO.gs hlt
  rw [h1, h3] at hG
  have hvl : vs.length = n2 := hG.v.len
  unfold qI qS qO qP qC
  cases hok : okG ins vs outs
  · have hp : pOK ins vs outs bud = false := by unfold pOK; rw [hok]; rfl
    rw [hp, if_neg (by simp), if_neg (by simp), if_neg (by simp), if_neg (by simp), if_pos rfl]
    refine (specPlan_bad w _ _ _ n1 c1 n2 c2 n3 c3 bud ins vs outs hG hok).mono ?_
    rintro e w' ⟨rfl, k⟩
    exact ⟨none, 0, none, 0, none, 0, rfl, cs_nil _, k⟩
  · refine (specPlan_in w _ _ _ n1 c1 n2 c2 n3 c3 bud ins vs outs hG hok).mono ?_
    rintro e w' ⟨ha, hb, k⟩
    rw [← hvl] at ha hb
    by_cases hlt2 : bud < pkM vs outs
    · have hp : pOK ins vs outs bud = false := by unfold pOK; rw [hok, decide_eq_false (fun h => h hlt2)]; rfl
      rw [hp, if_neg (by simp), if_neg (by simp), if_neg (by simp), if_neg (by simp), if_neg (by simp), if_pos hlt2]
      exact ⟨none, 0, none, 0, none, 0, ha hlt2, cs_nil _, k⟩
    · have hp : pOK ins vs outs bud = true := by unfold pOK; rw [hok, decide_eq_true hlt2]; rfl
      rw [hp, if_pos rfl, if_pos rfl, if_pos rfl, if_pos rfl, if_neg (by simp), if_neg hlt2]
      obtain ⟨a1, d1, a2, d2, a3, d3, e1, e2⟩ := hb hlt2
      unfold PLv
      rw [stesTo_len, List.length_map, h1, h3]
      exact ⟨a1, d1, a2, d2, a3, d3, e1, e2.cs, k⟩
set_option maxRecDepth 100000 in
set_option maxHeartbeats 2000000 in
theorem fnPlan_long (w : World) (a1 a2 a3 : Option Addr) (n1 c1 n2 c2 n3 c3 : Nat) (bud : Int) (hn1 : n1 ≤ 9223372036854775807) (hn2 : n2 ≤ 9223372036854775807) (hn3 : n3 ≤ 9223372036854775807) (h : (1048576 : Int) - n1 - n2 - n3 < 0) :
    Calls Try.prog 4 #[gagg a1 n1 c1 a2 n2 c2 a3 n3 c3, .int .i64 bud] w fun e w' => e = .returned (.bool true) ∧ Below w.heap.size w w' := by
  have HZ : Hid _ := szGraph (w.alloc (.cells #[.slice a1 n1 c1, .slice a2 n2 c2, .slice a3 n3 c3] 25)) a1 a2 a3 n1 c1 n2 c2 n3 c3 1048576 (by omega) (by omega) hn1 hn2 hn3
  rw [if_pos h] at HZ
  clear hn1 hn2 hn3 h
  go_enter Try.func4, Try.ntmps4
  go_wp2_with fail
  refine Calls.mono HZ.out ?_
  rintro e w1 ⟨rfl, k1⟩
  go_wp2
  go_ret
  exact ⟨rfl, ((kept_alloc 0 0 w _).trans k1).below⟩
end Go.Proofs.Ytdkjdlimcnddkaa
