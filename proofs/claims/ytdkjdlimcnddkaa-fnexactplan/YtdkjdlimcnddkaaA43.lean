import Derived.Test.YtdkjdlimcnddkaaA42
import Derived.Test.YtdkjdlimcnddkaaA20
namespace Go.Proofs.Ytdkjdlimcnddkaa
open Go.RowKit Flt
theorem runs_out {lo : Int} {s : Spn} : ∀ {p r : List Spn}, RunsF lo (p ++ s :: r) → RunsF lo (p ++ r)
  | [], r, h => RunsF.mono (by have := h.1; have := h.2.1; omega) h.2.2
  | t :: p, r, h => ⟨h.1, h.2.1, runs_out (p := p) h.2.2⟩
theorem lbs_eq {l : List Spn} {x : Int} {i k : Nat} (h : LbS l x i) (hk : k ≤ l.length) (h1 : ∀ j, j < k → (l.getD j Spn.zero).off < x) (h2 : ∀ j, k ≤ j → j < l.length → x ≤ (l.getD j Spn.zero).off) : i = k := by
  rcases Nat.lt_trichotomy i k with c | c | c
  · have a := h1 i c
    have b := h.hi i (Nat.le_refl _) (by omega)
    omega
  · exact c
  · have a := h.lo k c
    have b := h2 k (Nat.le_refl _) (by have := h.le; omega)
    omega
abbrev n1box (n : Int) : Obj := .cells #[.int .i64 n] 3
/-- A run's box, new. -/
structure ZB (W : World) (B : Nat) : Prop where
  c0 : W.cell? ⟨B, 0, none⟩ = some (.int .i64 0)
  c1 : W.cell? ⟨B, 1, none⟩ = some (.int .i64 0)
  fr : ∀ o, W.frozen? ⟨B, o, none⟩ = false
  lt : B < W.heap.size
theorem zb_new (w : World) : ZB (w.alloc z0box) w.heap.size := by
  have h : XB (w.alloc z0box) w.heap.size Spn.zero := xb_new w Spn.zero
  exact ⟨h.at_ 0 _ rfl, h.at_ 1 _ rfl, h.fr, h.lt⟩
theorem ZB.keepC {W W' : World} {S : Nat → Prop} {B : Nat} (f : ZB W B) (k : Chg S W W') (hd : ¬ S B) : ZB W' B :=
  ⟨by rw [k.cell (p := ⟨B, 0, none⟩) f.lt hd]; exact f.c0, by rw [k.cell (p := ⟨B, 1, none⟩) f.lt hd]; exact f.c1, fun o => by rw [k.frozen (p := ⟨B, o, none⟩) f.lt hd]; exact f.fr o, Nat.lt_of_lt_of_le f.lt k.size⟩
/-- What stands when take has its run s in the box B. -/
structure TK (w W4 : World) (R g cap V B : Nat) (n : Int) (l' : List Spn) (s : Spn) : Prop where
  at_ : AtP W4 B 0 s
  fr : Fr W4 R g cap l'
  chg : Chg (fun b => b = R ∨ b = g) w W4
  nV : W4.cell? ⟨V, 0, none⟩ = some (.int .i64 n)
  zb : ZB W4 (V + 1)
  ne : V + 1 < B ∧ R < V ∧ g < V ∧ w.heap.size = V
  lt : B < W4.heap.size
theorem tk_base {w w1 w3 W4 : World} {R g cap V B : Nat} {n : Int} {l' : List Spn} {s : Spn} (h0 : Chg (fun b => b = R ∨ b = g) w w1) (h1 : Chg (fun b => b = R ∨ b = g) w1 w3) (h2 : Chg (fun b => b = B) w3 W4) (F3 : Fr w3 R g cap l') (hV : w1.cell? ⟨V, 0, none⟩ = some (.int .i64 n)) (hz : ZB w1 (V + 1)) (hR : R < V) (hg : g < V) (hw : w.heap.size = V) (hB : w1.heap.size ≤ B) (hat : AtP W4 B 0 s) (hl : B < W4.heap.size) : TK w W4 R g cap V B n l' s where
  at_ := hat
  fr := F3.keepC h2 (by have := hz.lt; show ¬ (R = B); omega) (by have := hz.lt; show ¬ (g = B); omega)
  chg := Chg.new (Chg.andThen h0 h1) h2 (fun i hi e => by have := hz.lt; omega)
  nV := by
    have := hz.lt
    have := h1.size
    rw [h2.cell (p := ⟨V, 0, none⟩) (by show V < _; omega) (by show ¬ (V = B); omega), h1.cell (p := ⟨V, 0, none⟩) (by show V < _; omega) (by show ¬ (V = R ∨ V = g); omega)]
    exact hV
  zb := by
    have := hz.lt
    exact (hz.keepC h1 (by show ¬ (V + 1 = R ∨ V + 1 = g); omega)).keepC h2 (by show ¬ (V + 1 = B); omega)
  ne := ⟨by have := hz.lt; omega, hR, hg, hw⟩
  lt := hl
theorem put_box {W : World} {B : Nat} (z : ZB W B) (s : Spn) : AtP ((W.setCell ⟨B, 0, none⟩ (.int .i64 s.off)).setCell ⟨B, 1, none⟩ (.int .i64 s.len)) B 0 s := by
  refine ⟨?_, ?_⟩
  · rw [cell_ne _ _ _ _ _ _ (.inr (by omega))]; exact cell_eq _ _ _ _ _ z.c0
  · refine cell_eq _ _ _ _ _ (?_ : _ = some (.int .i64 0))
    rw [cell_ne _ _ _ _ _ _ (.inr (by omega))]; exact z.c1
theorem put_chg (W : World) (B : Nat) (s : Spn) : Chg (fun b => b = B) W ((W.setCell ⟨B, 0, none⟩ (.int .i64 s.off)).setCell ⟨B, 1, none⟩ (.int .i64 s.len)) := Chg.andThen (chg_setCell W B 0 _ rfl) (chg_setCell _ B 1 _ rfl)
/-- The list behind take: the k-th run is cut. -/
def takeL (l : List Spn) (k : Nat) (n : Int) : List Spn := l.take k ++ cutS (l.getD k Spn.zero) n ++ l.drop (k + 1)
theorem out_getD (l : List Spn) (k j : Nat) : (l.take k ++ l.drop (k + 1)).getD j Spn.zero = if j < k then l.getD j Spn.zero else l.getD (j + 1) Spn.zero := by
  rw [← List.eraseIdx_eq_take_drop_succ, List.getD_eq_getElem?_getD, List.getElem?_eraseIdx]
  split <;> simp [List.getD_eq_getElem?_getD]
structure TkP (l : List Spn) (k : Nat) (n : Int) (s : Spn) : Prop where
  runs : RunsF 0 (l.take k ++ l.drop (k + 1))
  len : (l.take k ++ l.drop (k + 1)).length ≤ 1000000
  off : 0 ≤ s.off ∧ n ≤ s.len ∧ s.off + s.len ≤ 50000
  cut : n < s.len → ∀ i, LbS (l.take k ++ l.drop (k + 1)) (s.off + n) i → (l.take k ++ l.drop (k + 1)).take i ++ Spn.mk (s.off + n) (s.len - n) :: (l.take k ++ l.drop (k + 1)).drop i = takeL l k n
  all_ : ¬ n < s.len → l.take k ++ l.drop (k + 1) = takeL l k n
theorem take_pure {l : List Spn} {k : Nat} {n : Int} {s : Spn} (hs : RunsF 0 l) (hb : l.length ≤ 1000000) (hn : 1 ≤ n) (ht : ∀ s ∈ l, s.off + s.len ≤ 50000) (hk : firstFit n l = some k) (he : l.getD k Spn.zero = s) : TkP l k n s := by
  obtain ⟨k1, k2, k3⟩ := fit_some hk
  rw [he] at k2
  have hmem : ∀ j, j < l.length → l.getD j Spn.zero ∈ l := fun j hj => by
    rw [List.getD_eq_getElem?_getD, List.getElem?_eq_getElem hj]
    exact List.getElem_mem _
  have hsm : s ∈ l := by rw [← he]; exact hmem k k1
  have hsp : l = l.take k ++ s :: l.drop (k + 1) := by
    have h1 : l.drop k = s :: l.drop (k + 1) := by
      rw [List.drop_eq_getElem_cons k1]
      congr 1
      rw [← he, List.getD_eq_getElem?_getD, List.getElem?_eq_getElem k1]
      rfl
    rw [← h1, List.take_append_drop]
  have hm := RunsF.mem hs s hsm
  have hlen : (l.take k ++ l.drop (k + 1)).length = l.length - 1 := by
    rw [List.length_append, List.length_take, List.length_drop]
    omega
  have hlk : (l.take k).length = k := by rw [List.length_take]; omega
  refine ⟨runs_out (s := s) (by rw [← hsp]; exact hs), by omega, ⟨hm.1, k2, ht s hsm⟩, fun hlt i hi => ?_, fun hlt => ?_⟩
  · have hik : i = k := by
      refine lbs_eq hi (by rw [hlen]; omega) (fun j hj => ?_) (fun j h1 h2 => ?_)
      · rw [out_getD, if_pos hj]
        have a := runs_lt hs hj k1
        have b := RunsF.mem hs _ (hmem j (by omega))
        rw [he] at a
        omega
      · rw [hlen] at h2
        rw [out_getD, if_neg (by omega)]
        have a := runs_lt hs (show k < j + 1 by omega) (show j + 1 < l.length by omega)
        rw [he] at a
        omega
    rw [hik, List.take_left' hlk, List.drop_left' hlk]
    unfold takeL cutS
    rw [he, if_pos hlt, List.append_assoc]
    rfl
  · unfold takeL cutS
    rw [he, if_neg hlt, List.append_nil]
def TkO (w : World) (R g k : Nat) (l : List Spn) (n : Int) (e : Ending) (w' : World) : Prop := ∃ g' cap', e = .returned (Spn.mk (l.getD k Spn.zero).off n).agg ∧ Fr w' R g' cap' (takeL l k n) ∧ Chg (fun b => b = R ∨ b = g) w w' ∧ (g' = g ∨ w.heap.size ≤ g')
set_option maxRecDepth 100000 in
set_option maxHeartbeats 4000000 in
theorem takeS (w : World) (R g cap k : Nat) (l : List Spn) (n : Int) (f : Fr w R g cap l) (hs : RunsF 0 l) (hb : l.length ≤ 1000000) (hn : 1 ≤ n) (ht : ∀ s ∈ l, s.off + s.len ≤ 50000) (hk : firstFit n l = some k) :
    Calls Try.prog 101 #[.pointer (some ⟨R, 0, none⟩), .int .i64 n] w fun e w' => TkO w R g k l n e w' := by
  obtain ⟨k1, k2, k3⟩ := fit_some hk
  have ka := kept_alloc 0 0 w (n1box n)
  have kb := kept_alloc 0 0 (w.alloc (n1box n)) z0box
  have kk := ka.trans kb
  have HF : Hid _ := f.keepC (kk.chg (S := fun _ => False)) (fun h => h) (fun h => h)
  have HK : Hid (Chg (fun b => b = R ∨ b = g) w ((w.alloc (n1box n)).alloc z0box)) := kk.chg
  have hz : (w.alloc (n1box n)).heap.size = w.heap.size + 1 := by simp
  have HA : Hid (((w.alloc (n1box n)).alloc z0box).cell? ⟨w.heap.size, 0, none⟩ = some (.int .i64 n) ∧ AtP ((w.alloc (n1box n)).alloc z0box) (w.heap.size + 1) 0 Spn.zero ∧ (∀ o, ((w.alloc (n1box n)).alloc z0box).frozen? ⟨w.heap.size + 1, o, none⟩ = false) ∧ w.heap.size + 1 < ((w.alloc (n1box n)).alloc z0box).heap.size) := by
    have h2 : XB ((w.alloc (n1box n)).alloc z0box) (w.alloc (n1box n)).heap.size Spn.zero := xb_new (w.alloc (n1box n)) Spn.zero
    rw [hz] at h2
    refine ⟨?_, ⟨h2.at_ 0 _ rfl, h2.at_ 1 _ rfl⟩, fun o => h2.fr o, by simp⟩
    rw [kb.cell (p := ⟨w.heap.size, 0, none⟩) (by rw [hz]; exact Nat.lt_succ_self _) (by omega)]
    rw [World.cell?_alloc_at _ _ w.heap.size 0 rfl]
    rfl
  have HLT : Hid (R < w.heap.size ∧ g < w.heap.size) := ⟨f.lt, f.row.lt⟩
  have HS : Hid _ := hs
  have HKK : Hid _ := hk
  have HK1 : Hid _ := k1
  have HTT : Hid _ := ht
  clear ka kb kk hz f hs hk k1 k2 k3 ht
  go_enter Try.func101, Try.ntmps101
  go_upto_region 2 with fail
  generalize (w.alloc (n1box n)).alloc z0box = w1 at HF HK HA ⊢
  obtain ⟨V, hV⟩ : ∃ V, V = w.heap.size := ⟨_, rfl⟩
  rw [← hV] at HA HLT ⊢
  have HVW : Hid _ := hV
  clear hV
  obtain ⟨m, hm⟩ : ∃ m, m = l.length := ⟨_, rfl⟩
  have HM : Hid _ := hm.symm
  have y0 := HF.out.c0
  rw [← hm] at y0 hb
  clear hm
  obtain ⟨s, hse⟩ : ∃ s, s = l.getD k Spn.zero := ⟨_, rfl⟩
  have HSE : Hid _ := hse.symm
  have HC1 : Hid (∀ W, Kept 0 0 w1 W → Calls Try.prog 142 #[.slice (some ⟨g, 0, none⟩) m cap, .func (.func 140) #[] #[.pointer (some ⟨V, 0, none⟩)]] W fun e w' => e = .returned (.int .i64 (k : Int)) ∧ Kept 0 0 W w') := fun W kW =>
    indexF W g (g + 1) (some ⟨g, 0, none⟩) m cap l V n (Nat.lt_of_lt_of_le (by have := HA.out.2.2.2; omega) kW.size) (by rw [kW.cell (p := ⟨V, 0, none⟩) (by have := HA.out.2.2.2; show V < _; omega) (by omega)]; exact HA.out.1) (by have := (HF.out.row.keepC (kW.chg (S := fun _ => False)) (fun h => h)).ps; rw [HM.out] at this; exact this) hb k HKK.out
  have HC2 : Hid (∀ W, Kept 0 0 w1 W → Calls Try.prog 141 #[.pointer (some ⟨R, 0, none⟩), .int .i64 (k : Int)] W fun e w' => e = .returned s.agg ∧ Fr w' R g cap (l.take k ++ l.drop (k + 1)) ∧ Chg (fun b => b = R ∨ b = g) W w') := fun W kW => by
    rw [hse]
    exact removeS W R g cap k l (HF.out.keepC (kW.chg (S := fun _ => False)) (fun h => h) (fun h => h)) HK1.out (by have := HM.out; omega)
  clear hse
  have HG1 : Hid (∀ B, w1.heap.size ≤ B → ¬ (B = R ∨ B = g)) := fun B hB h => by have := HLT.out; have := HA.out.2.2.2; omega
  have hR := HF.out.lt
  first | (go_region_with (first
    | (go_at_call 142; first
      | (refine Calls.mono (HC1.out w1.drew (kept_drew w1)) ?_; rintro e w2 ⟨rfl, k2'⟩; have k2 := (kept_drew w1).trans k2')
      | (refine Calls.mono (HC1.out (w1.alloc z0box).drew ((kept_alloc 0 0 w1 z0box).trans (kept_drew _))) ?_; rintro e w2 ⟨rfl, k2'⟩; have k2 := ((kept_alloc 0 0 w1 z0box).trans (kept_drew _)).trans k2'; have zb : Hid (ZB w2 w1.heap.size) := (zb_new w1).keepC (((kept_drew _).trans k2').chg (S := fun _ => False)) (fun h => h)))
    | (go_at_call 141; first
      | (have zb' := zb.out; refine Calls.mono (HC2.out w2 k2) ?_; rintro e w3 ⟨rfl, F3, C3⟩; obtain ⟨b0, b1, bf, bl⟩ := zb'.keepC C3 (HG1.out _ (Nat.le_refl _)))
      | (refine Calls.mono (HC2.out w2 k2) ?_; rintro e w3 ⟨rfl, F3, C3⟩)
      | (refine Calls.mono (HC2.out (w2.alloc z0box) (k2.trans (kept_alloc 0 0 w2 z0box))) ?_; rintro e w3 ⟨rfl, F3, C3⟩; obtain ⟨b0, b1, bf, bl⟩ := (zb_new w2).keepC C3 (HG1.out _ k2.size))))) | fail
  all_goals
    have HZB : Hid (ZB w1 (V + 1)) := ⟨HA.out.2.1.1, HA.out.2.1.2, HA.out.2.2.1, HA.out.2.2.2⟩
    first
    | (obtain ⟨W4, B, hW4, hB, HT⟩ : ∃ W4 B, W4 = w3.alloc (spbox s) ∧ B = w3.heap.size ∧ Hid (TK w W4 R g cap V B n (l.take k ++ l.drop (k + 1)) s) := ⟨_, _, rfl, rfl, tk_base HK.out (Chg.andThen k2.chg C3) (kept_alloc 0 0 w3 (spbox s)).chg F3 HA.out.1 HZB.out HLT.out.1 HLT.out.2 HVW.out.symm (Nat.le_trans k2.size C3.size) (by have h : XB (w3.alloc (spbox s)) w3.heap.size s := xb_new w3 s; exact ⟨h.at_ 0 _ rfl, h.at_ 1 _ rfl⟩) (by simp)⟩
       rw [← hW4, ← hB]
       clear hW4 hB)
    | (obtain ⟨B, hB⟩ : ∃ B, B = w2.heap.size := ⟨_, rfl⟩
       rw [← hB] at b0 b1 bf bl ⊢
       obtain ⟨W4, hW4, HT⟩ : ∃ W4, W4 = (w3.setCell ⟨B, 0, none⟩ (.int .i64 s.off)).setCell ⟨B, 1, none⟩ (.int .i64 s.len) ∧ Hid (TK w W4 R g cap V B n (l.take k ++ l.drop (k + 1)) s) := ⟨_, rfl, tk_base HK.out (Chg.andThen (k2.trans (kept_alloc 0 0 w2 z0box)).chg C3) (put_chg w3 B s) F3 HA.out.1 HZB.out HLT.out.1 HLT.out.2 HVW.out.symm (by rw [hB]; exact k2.size) (put_box ⟨b0, b1, bf, bl⟩ s) (Nat.lt_of_lt_of_le bl (put_chg w3 B s).size)⟩
       rw [← hW4]
       clear hW4 hB b0 b1 bf bl)
    | (obtain ⟨B, hB⟩ : ∃ B, B = w1.heap.size := ⟨_, rfl⟩
       rw [← hB] at b0 b1 bf bl ⊢
       obtain ⟨W4, hW4, HT⟩ : ∃ W4, W4 = (w3.setCell ⟨B, 0, none⟩ (.int .i64 s.off)).setCell ⟨B, 1, none⟩ (.int .i64 s.len) ∧ Hid (TK w W4 R g cap V B n (l.take k ++ l.drop (k + 1)) s) := ⟨_, rfl, tk_base HK.out (Chg.andThen k2.chg C3) (put_chg w3 B s) F3 HA.out.1 HZB.out HLT.out.1 HLT.out.2 HVW.out.symm (by rw [hB]; exact Nat.le_refl _) (put_box ⟨b0, b1, bf, bl⟩ s) (Nat.lt_of_lt_of_le bl (put_chg w3 B s).size)⟩
       rw [← hW4]
       clear hW4 hB b0 b1 bf bl)
    clear F3 C3 HC1 HC2 hR y0 HF HK HA HZB HVW k2 k2'
    obtain ⟨x0, x1⟩ := HT.out.at_
    rw [Nat.zero_add] at x1
    have v0 := HT.out.nV
    have HP : Hid _ := take_pure HS.out (by have := HM.out; omega) hn HTT.out HKK.out HSE.out
    have hso := HP.out.off
    have hw1 : IntKind.i64.wrap (s.off + n) = s.off + n := by rw [IntKind.wrap_i64]; omega
    have hw2 : IntKind.i64.wrap (s.len - n) = s.len - n := by rw [IntKind.wrap_i64]; omega
    clear hso
    by_cases hlt : n < s.len
    · have HCI : Hid (∀ W, Kept 0 0 W4 W → _) := fun W (kW : Kept 0 0 W4 W) => insertS W R g cap (l.take k ++ l.drop (k + 1)) (Spn.mk (s.off + n) (s.len - n)) (HT.out.fr.keepC (kW.chg (S := fun _ => False)) (fun h => h) (fun h => h)) HP.out.runs HP.out.len
      go_wp2_with fail
      go_region_held3 (fun w' => w'.cell? ⟨B, 0, none⟩ = some (.int .i64 s.off) ∧ w'.cell? ⟨B, 1, none⟩ = some (.int .i64 s.len) ∧ w'.cell? ⟨V, 0, none⟩ = some (.int .i64 n)) (go_keep)
        (first | (go_at_call 143; refine Calls.mono (HCI.out _ (kept_drew W4)) ?_; rintro e w5 ⟨i, g', cap', rfl, lb, F5, C5', e5⟩; have C5 : Chg (fun b => b = R ∨ b = g) W4 w5 := Chg.andThen (kept_drew W4).chg C5'; have t0 : w5.cell? ⟨B, 0, none⟩ = some (.int .i64 s.off) := (by rw [C5.cell (p := ⟨B, 0, none⟩) HT.out.lt (by have := HT.out.ne; show ¬ (B = R ∨ B = g); omega)]; exact x0); have t1 : w5.cell? ⟨B, 1, none⟩ = some (.int .i64 s.len) := (by rw [C5.cell (p := ⟨B, 1, none⟩) HT.out.lt (by have := HT.out.ne; show ¬ (B = R ∨ B = g); omega)]; exact x1); have t2 : w5.cell? ⟨V, 0, none⟩ = some (.int .i64 n) := (by rw [C5.cell (p := ⟨V, 0, none⟩) (by have := HT.out.zb.lt; show V < _; omega) (by have := HT.out.ne; show ¬ (V = R ∨ V = g); omega)]; exact v0)))
      all_goals
        rw [HP.out.cut hlt i lb] at F5
        have HE5 : Hid (g' = g ∨ w.heap.size ≤ g') := e5.imp id (fun h => Nat.le_trans HT.out.chg.size h)
        have hgV : Hid (¬ (g' = V + 1)) := fun e => by
          have h1 := HT.out.ne
          have h2 := HT.out.lt
          rcases e5 with h | h
          · omega
          · have : W4.heap.size ≤ g' := h
            omega
        have hz5 : Hid (V < w5.heap.size) := Nat.lt_of_lt_of_le (by have := HT.out.zb.lt; omega) C5.size
        have ZV : ZB w5 (V + 1) := HT.out.zb.keepC C5 (by have := HT.out.ne; show ¬ (V + 1 = R ∨ V + 1 = g); omega)
        obtain ⟨z0, z1⟩ := put_box ZV (Spn.mk s.off n)
        have RF : Hid _ := F5.keepC (put_chg w5 (V + 1) (Spn.mk s.off n)) (by have := HT.out.ne; show ¬ (R = V + 1); omega) (by exact hgV.out)
        have RC : Hid (Chg (fun b => b = R ∨ b = g) w _) := Chg.new (Chg.andThen HT.out.chg C5) (put_chg w5 (V + 1) (Spn.mk s.off n)) (fun i hi e => by have := HT.out.ne; omega)
        have HZ0 : Hid _ := z0
        have HZ1 : Hid _ := z1
        obtain ⟨u0, u1, uf, ul⟩ := ZV
        clear z0 z1 ul
        go_wp2_with fail
        have z0 := HZ0.out
        have z1 := HZ1.out
        simp only [Nat.zero_add] at z0 z1
        refine bodyPost_ret (v := (Spn.mk s.off n).agg) (by simp [results, Try.results101, go_sem, z0, z1]) rfl (by unfold TkO; exact ⟨g', cap', by rw [HSE.out], RF.out, RC.out, HE5.out⟩)
    · have F5 := HT.out.fr
      rw [HP.out.all_ hlt] at F5
      have hz5 : Hid (V < W4.heap.size) := Nat.lt_of_lt_of_le (by have := HT.out.zb.lt; omega) (Nat.le_refl _)
      have ZV : ZB W4 (V + 1) := HT.out.zb
      obtain ⟨z0, z1⟩ := put_box ZV (Spn.mk s.off n)
      have RF : Hid _ := F5.keepC (put_chg W4 (V + 1) (Spn.mk s.off n)) (by have := HT.out.ne; show ¬ (R = V + 1); omega) (by have := HT.out.ne; show ¬ (g = V + 1); omega)
      have RC : Hid (Chg (fun b => b = R ∨ b = g) w _) := Chg.new HT.out.chg (put_chg W4 (V + 1) (Spn.mk s.off n)) (fun i hi e => by have := HT.out.ne; omega)
      have HZ0 : Hid _ := z0
      have HZ1 : Hid _ := z1
      obtain ⟨u0, u1, uf, ul⟩ := ZV
      clear z0 z1 ul
      go_wp2_with fail
      have z0 := HZ0.out
      have z1 := HZ1.out
      simp only [Nat.zero_add] at z0 z1
      refine bodyPost_ret (v := (Spn.mk s.off n).agg) (by simp [results, Try.results101, go_sem, z0, z1]) rfl (by unfold TkO; exact ⟨g, cap, by rw [HSE.out], RF.out, RC.out, .inl rfl⟩)
end Go.Proofs.Ytdkjdlimcnddkaa

namespace Go.Proofs.Ytdkjdlimcnddkaa
open Go.RowKit Flt
def AfO (w : World) (e : Ending) (w' : World) : Prop := ∃ R g, e = .returned (.pointer (some ⟨R, 0, none⟩)) ∧ Fr w' R g 1 [Spn.mk 0 50000] ∧ Kept 0 0 w w' ∧ w.heap.size ≤ R ∧ w.heap.size ≤ g
set_option maxRecDepth 100000 in
set_option maxHeartbeats 4000000 in
theorem allFreeS (w : World) : Calls Try.prog 99 #[] w fun e w' => AfO w e w' := by
  have r1 : FRw (w.alloc (.cells #[.int .i64 0, .int .i64 50000] 83)) w.heap.size 1 [Spn.mk 0 50000] := frw_row w #[.int .i64 0, .int .i64 50000] [Spn.mk 0 50000] 1 (Nat.le_refl _) (by decide) rfl (fun j u hu => by
    have hj := (List.getElem?_eq_some_iff.1 hu).1
    have hj2 : j < 2 := hj
    rcases (by omega : j = 0 ∨ j = 1) with rfl | rfl
    · exact hu
    · exact hu)
  have HR1 : Hid _ := r1
  clear r1
  go_enter Try.func99, Try.ntmps99
  go_wp2_with fail
  go_ret
  unfold AfO
  have hz : (w.alloc (.cells #[.int .i64 0, .int .i64 50000] 83)).heap.size = w.heap.size + 1 := by simp
  have kb := kept_alloc 0 0 (w.alloc (.cells #[.int .i64 0, .int .i64 50000] 83)) (.cells #[.slice (some ⟨w.heap.size, 0, none⟩) 1 1, .func (.func 137) #[] #[]] 183)
  refine ⟨w.heap.size + 1, w.heap.size, rfl, ⟨?_, ?_, ?_, HR1.out.keepC (kb.chg (S := fun _ => False)) (fun h => h), by omega, by simp⟩, (kept_alloc 0 0 w _).trans kb, by omega, Nat.le_refl _⟩
  · rw [World.cell?_alloc_at _ _ (w.heap.size + 1) 0 hz.symm]; rfl
  · rw [World.cell?_alloc_at _ _ (w.heap.size + 1) 1 hz.symm]; rfl
  · exact World.frozen?_alloc_at _ _ (w.heap.size + 1) 0 hz.symm
end Go.Proofs.Ytdkjdlimcnddkaa

namespace Go.Proofs.Ytdkjdlimcnddkaa
open Go.RowKit Flt
set_option maxRecDepth 100000 in
set_option maxHeartbeats 4000000 in
theorem join_neg (w : World) (R : Nat) (i : Int) (hi : i < 0) :
    Calls Try.prog 144 #[.pointer (some ⟨R, 0, none⟩), .int .i64 i] w fun e w' => e = .returned (.tuple #[]) ∧ Kept 0 0 w w' := by
  go_enter Try.func144, Try.ntmps144
  go_wp2_with fail
  go_quiet (fail)
  go_wp2_with fail
  refine bodyPost_ret (v := .tuple #[]) (by simp [results, Try.results144, go_sem]) rfl ?_
  exact ⟨rfl, kept_drewN 0 0 w _⟩
end Go.Proofs.Ytdkjdlimcnddkaa
