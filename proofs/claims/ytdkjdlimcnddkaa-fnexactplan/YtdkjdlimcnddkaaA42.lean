import Derived.Test.YtdkjdlimcnddkaaA41
namespace Go.Proofs.Ytdkjdlimcnddkaa
open Go.RowKit Flt

theorem insS (w : World) (g cap i n X : Nat) (l : List Spn) (x : Spn) (f : FRw w g cap l) (hn : l.length = n) (hx : XB w X x) (hXg : X ≠ g) (hb : n ≤ 2000000) (hi : i ≤ n) :
    Calls Try.prog 167 #[.slice (some ⟨g, 0, none⟩) n cap, .int .i64 i, .slice (some ⟨X, 0, none⟩) 1 1] w fun e w' => ∃ g' cap', e = .returned (.slice (some ⟨g', 0, none⟩) (n + 1) cap') ∧ FRw w' g' cap' (l.take i ++ x :: l.drop i) ∧ Chg (fun b => b = g) w w' ∧ (g' = g ∨ g' = w.heap.size) := by
  by_cases e : i = n
  · subst e
    refine Calls.mono (ins_end w g cap i X l x f hn hx hb) ?_
    rintro e w' ⟨g', cap', h1, h2, h3, h4⟩
    refine ⟨g', cap', h1, ?_, h3, h4⟩
    rw [← hn, List.take_length, List.drop_length]
    exact h2
  · by_cases hr : n + 1 ≤ cap
    · refine Calls.mono (ins_shift w g cap i n 1 X l x f hn hx hXg hb rfl (by omega) hr) ?_
      rintro e w' ⟨h1, h2, h3⟩
      exact ⟨g, cap, h1, h2, h3, .inl rfl⟩
    · refine Calls.mono (ins_grow w g cap i n 1 X l x f hn hx hb rfl (by omega) (by omega)) ?_
      rintro e w' ⟨cap', h1, h2, h3⟩
      exact ⟨_, cap', h1, h2, h3, .inr rfl⟩
/-- The free cells at R: their runs lie in block g. -/
structure Fr (W : World) (R g cap : Nat) (l : List Spn) : Prop where
  c0 : W.cell? ⟨R, 0, none⟩ = some (.slice (some ⟨g, 0, none⟩) l.length cap)
  c1 : W.cell? ⟨R, 1, none⟩ = some (.func (.func 137) #[] #[])
  fr : W.frozen? ⟨R, 0, none⟩ = false
  row : FRw W g cap l
  ne : R ≠ g
  lt : R < W.heap.size
theorem Fr.keepC {W W' : World} {S : Nat → Prop} {R g cap : Nat} {l : List Spn} (f : Fr W R g cap l) (k : Chg S W W') (h1 : ¬ S R) (h2 : ¬ S g) : Fr W' R g cap l :=
  ⟨by rw [k.cell (p := ⟨R, 0, none⟩) f.lt h1]; exact f.c0, by rw [k.cell (p := ⟨R, 1, none⟩) f.lt h1]; exact f.c1, by rw [k.frozen (p := ⟨R, 0, none⟩) f.lt h1]; exact f.fr, f.row.keepC k h2, f.ne, Nat.lt_of_lt_of_le f.lt k.size⟩
/-- The runs lie anew, in g', and R is told. -/
theorem Fr.put {W W' : World} {R g cap g' cap' : Nat} {l l' : List Spn} (f : Fr W R g cap l) (k : Chg (fun b => b = g) W W') (r : FRw W' g' cap' l') (hg : g' = g ∨ W.heap.size ≤ g') : Fr (W'.setCell ⟨R, 0, none⟩ (.slice (some ⟨g', 0, none⟩) l'.length cap')) R g' cap' l' := by
  have hne : R ≠ g' := by
    rcases hg with e | e
    · rw [e]; exact f.ne
    · have := f.lt; omega
  have e0 : W'.cell? ⟨R, 0, none⟩ = _ := (k.cell (p := ⟨R, 0, none⟩) f.lt (by exact f.ne)).trans f.c0
  have e1 : W'.cell? ⟨R, 1, none⟩ = _ := (k.cell (p := ⟨R, 1, none⟩) f.lt (by exact f.ne)).trans f.c1
  have e2 : W'.frozen? ⟨R, 0, none⟩ = _ := (k.frozen (p := ⟨R, 0, none⟩) f.lt (by exact f.ne)).trans f.fr
  exact ⟨cell_eq _ _ _ _ _ e0, by rw [cell_ne _ _ _ _ _ _ (.inr (by omega))]; exact e1, by simp [e2], r.keepC (chg_setCell (S := fun b => b = R) W' R 0 _ rfl) (fun e => hne e.symm), hne, by simpa using Nat.lt_of_lt_of_le f.lt k.size⟩
theorem xb_new (w : World) (x : Spn) : XB (w.alloc x.box) w.heap.size x where
  at_ := fun j u hu => by
    rw [World.cell?_alloc_at _ _ w.heap.size j rfl]
    have hj := (List.getElem?_eq_some_iff.1 hu).1
    have hj2 : j < 2 := hj
    rcases (by omega : j = 0 ∨ j = 1) with rfl | rfl
    · exact hu
    · exact hu
  fr := fun o => World.frozen?_alloc_at _ _ w.heap.size o rfl
  shp := by
    have e : (w.alloc x.box).heap[w.heap.size]? = some x.box := by
      unfold World.alloc
      exact Array.getElem?_push_size
    refine ⟨83, 2, ?_⟩
    unfold World.shape?
    rw [e]
    rfl
  lt := by simp
set_option maxRecDepth 100000 in
set_option maxHeartbeats 4000000 in
theorem insertS (w : World) (R g cap : Nat) (l : List Spn) (x : Spn) (f : Fr w R g cap l) (hs : RunsF 0 l) (hb : l.length ≤ 1000000) :
    Calls Try.prog 143 #[.pointer (some ⟨R, 0, none⟩), x.agg] w fun e w' => ∃ (i g' cap' : Nat), e = .returned (.int .i64 (i : Int)) ∧ LbS l x.off i ∧ Fr w' R g' cap' (l.take i ++ x :: l.drop i) ∧ Chg (fun b => b = R ∨ b = g) w w' ∧ (g' = g ∨ w.heap.size ≤ g') := by
  have ka := kept_alloc 0 0 w x.box
  have HF : Hid _ := f.keepC (ka.chg (S := fun _ => False)) (fun h => h) (fun h => h)
  have HX : Hid (AtP (w.alloc x.box) w.heap.size 0 x) := by
    have := xb_new w x
    exact ⟨this.at_ 0 _ rfl, this.at_ 1 _ rfl⟩
  have HK : Hid (Chg (fun b => b = R ∨ b = g) w (w.alloc x.box)) := ka.chg
  have HZ : Hid (w.heap.size < (w.alloc x.box).heap.size ∧ R < w.heap.size ∧ g < w.heap.size) := ⟨by simp, f.lt, f.row.lt⟩
  have HS : Hid _ := hs
  clear f hs ka
  go_enter Try.func143, Try.ntmps143
  go_upto_region 1 with fail
  generalize w.alloc x.box = w1 at HF HX HK HZ ⊢
  obtain ⟨X, hX⟩ : ∃ X, X = w.heap.size := ⟨_, rfl⟩
  rw [← hX] at HX HZ ⊢
  have HXW : Hid _ := hX
  clear hX
  obtain ⟨x0, x1⟩ := HX.out
  have y0 := HF.out.c0
  have y1 := HF.out.c1
  obtain ⟨n, hn⟩ : ∃ n, n = l.length := ⟨_, rfl⟩
  rw [← hn] at y0 hb
  have HN : Hid _ := hn.symm
  clear hn
  have HC : Hid (∀ W, _) := fun W (h : PS W g (g + 1) (some ⟨g, 0, none⟩) n l) => binS W g (g + 1) (some ⟨g, 0, none⟩) n cap l x h hb HS.out
  go_region_held3 (fun w' => w'.cell? ⟨R, 0, none⟩ = some (.slice (some ⟨g, 0, none⟩) n cap) ∧ w'.cell? ⟨R, 1, none⟩ = some (.func (.func 137) #[] #[]) ∧ w'.cell? ⟨X, 0, none⟩ = some (.int .i64 x.off) ∧ w'.cell? ⟨X, 1, none⟩ = some (.int .i64 x.len)) (go_keep)
    (first | (go_at_call 166; refine Calls.mono (HC.out _ (by rw [← HN.out]; exact (HF.out.row.keepC ((kept_drew w1).chg (S := fun _ => False)) (fun h => h)).ps)) ?_; rintro e w2 ⟨i, b, rfl, lb, k2'⟩; have k2 := (kept_drew w1).trans k2'; have t0 : w2.cell? ⟨R, 0, none⟩ = some (.slice (some ⟨g, 0, none⟩) n cap) := (by rw [k2.cell (p := ⟨R, 0, none⟩) HF.out.lt (by omega)]; exact y0); have t1 : w2.cell? ⟨R, 1, none⟩ = some (.func (.func 137) #[] #[]) := (by rw [k2.cell (p := ⟨R, 1, none⟩) HF.out.lt (by omega)]; exact y1); have t2 : w2.cell? ⟨X, 0, none⟩ = some (.int .i64 x.off) := (by rw [k2.cell (p := ⟨X, 0, none⟩) HZ.out.1 (by omega)]; exact x0); have t3 : w2.cell? ⟨X, 1, none⟩ = some (.int .i64 x.len) := (by rw [k2.cell (p := ⟨X, 1, none⟩) HZ.out.1 (by omega)]; exact x1)))
  all_goals
    have hR := HF.out.lt
    have HF2 : Hid _ := HF.out.keepC (k2.chg (S := fun _ => False)) (fun h => h) (fun h => h)
    have HK2 : Hid _ := Chg.andThen HK.out k2.chg
    have HL : Hid _ := lb
    have HZ2 : Hid (X < w2.heap.size ∧ R < X ∧ g < X ∧ w.heap.size ≤ w2.heap.size) := ⟨Nat.lt_of_lt_of_le HZ.out.1 k2.size, HZ.out.2.1, HZ.out.2.2, by have := HZ.out; have := HXW.out; have := k2.size; omega⟩
    have HI : Hid (i ≤ n) := by have := lb.le; rw [HN.out] at this; exact this
    have f0 := HF2.out.fr
    have k3 : Kept 0 0 w2 (w2.alloc x.box).drew := (kept_alloc 0 0 w2 x.box).trans (kept_drew _)
    have HQ1 : Hid _ := HF2.out.row.keepC (k3.chg (S := fun _ => False)) (fun h => h)
    have HQ2 : Hid (XB (w2.alloc x.box).drew w2.heap.size x) := by
      have h := xb_new w2 x
      exact ⟨h.at_, h.fr, h.shp, h.lt⟩
    have HQ3 : Hid (w2.heap.size ≠ g) := by have := HF2.out.row.lt; show _ ≠ _; omega
    have HQ4 : Hid _ := HF2.out.keepC (k3.chg (S := fun _ => False)) (fun h => h) (fun h => h)
    clear y0 y1 x0 x1 t1 k2 k2' HF HK HX HZ lb HC hR k3
    go_wp2_with fail
    have hR2 := HF2.out.lt
    have hX2 := HZ2.out.1
    have HR0 : Hid (∀ w3, Chg (fun b => b = g) (w2.alloc x.box).drew w3 → w3.cell? ⟨R, 0, none⟩ = some (.slice (some ⟨g, 0, none⟩) n cap) ∧ w3.frozen? ⟨R, 0, none⟩ = false) := fun w3 c3 => by
      rw [← HN.out]
      exact ⟨(c3.cell (p := ⟨R, 0, none⟩) HQ4.out.lt HQ4.out.ne).trans HQ4.out.c0, (c3.frozen (p := ⟨R, 0, none⟩) HQ4.out.lt HQ4.out.ne).trans HQ4.out.fr⟩
    first | (go_region_with (go_at_call 167; refine Calls.mono (insS (w2.alloc x.box).drew g cap i n w2.heap.size l x HQ1.out HN.out HQ2.out HQ3.out (by omega) HI.out) ?_; rintro e w3 ⟨g', cap', rfl, r3, c3, e3⟩; obtain ⟨z0, z1⟩ := HR0.out w3 c3)) | fail
    all_goals
      have hl : (l.take i ++ x :: l.drop i).length = n + 1 := by
        have h1 := HI.out
        have h2 := HN.out
        rw [List.length_append, List.length_cons, List.length_take, List.length_drop]
        omega
      have R1 : Hid (Fr (w3.setCell ⟨R, 0, none⟩ (.slice (some ⟨g', 0, none⟩) (n + 1) cap')) R g' cap' (l.take i ++ x :: l.drop i)) := by
        have h := HQ4.out.put c3 r3 (e3.imp id (fun e => Nat.le_of_eq e.symm))
        rw [hl] at h
        exact h
      have R2 : Hid (Chg (fun b => b = R ∨ b = g) w (w3.setCell ⟨R, 0, none⟩ (.slice (some ⟨g', 0, none⟩) (n + 1) cap'))) := Chg.andThen HK2.out (Chg.andThen ((kept_alloc 0 0 w2 x.box).trans (kept_drew _)).chg (Chg.andThen (c3.mono fun b _ h => .inr h) (chg_setCell w3 R 0 _ (.inl rfl))))
      have R3 : Hid (g' = g ∨ w.heap.size ≤ g') := e3.imp id (fun e => by rw [e]; show _ ≤ (w2.alloc x.box).heap.size; have := HZ2.out.2.2.2; simp; omega)
      clear hl z0 z1 c3 r3 e3
      go_wp2_with fail
      go_ret
      exact ⟨i, g', cap', rfl, HL.out, R1.out, R2.out, R3.out⟩
end Go.Proofs.Ytdkjdlimcnddkaa

namespace Go.Proofs.Ytdkjdlimcnddkaa
open Go.RowKit Flt
abbrev z0box : Obj := .cells #[.int .i64 0, .int .i64 0] 83
abbrev spbox (s : Spn) : Obj := .cells #[.int .i64 s.off, .int .i64 s.len] 83
set_option maxRecDepth 100000 in
set_option maxHeartbeats 4000000 in
theorem removeS (w : World) (R g cap i : Nat) (l : List Spn) (f : Fr w R g cap l) (hi : i < l.length) (hb : l.length ≤ 1000001) :
    Calls Try.prog 141 #[.pointer (some ⟨R, 0, none⟩), .int .i64 (i : Int)] w fun e w' => e = .returned (l.getD i Spn.zero).agg ∧ Fr w' R g cap (l.take i ++ l.drop (i + 1)) ∧ Chg (fun b => b = R ∨ b = g) w w' := by
  obtain ⟨n, hn⟩ : ∃ n, n = l.length := ⟨_, rfl⟩
  have HN : Hid _ := hn.symm
  rw [← hn] at hi hb
  obtain ⟨s, hs⟩ : ∃ s, s = l.getD i Spn.zero := ⟨_, rfl⟩
  have ka := kept_alloc 0 0 w z0box
  have kb := kept_alloc 0 0 (w.alloc z0box) (spbox s)
  have kk := ka.trans kb
  have y0 := f.c0
  rw [← hn] at y0
  have hat : AtP w g (i * 2) s := by
    rcases f.row.ps.at_ with z | ⟨ga, off, e, z1, z2, z3, z4⟩
    · omega
    · injection e with e
      injection e with e1 e2
      subst e1 e2
      have := z4 i (by omega)
      rw [← hs, Nat.zero_add] at this
      exact this
  obtain ⟨y1, y2⟩ := hat
  have HF : Hid _ := f.keepC (kk.chg (S := fun _ => False)) (fun h => h) (fun h => h)
  have HK : Hid (Chg (fun b => b = R ∨ b = g) w ((w.alloc z0box).alloc (spbox s))) := kk.chg
  have HA : Hid (AtP ((w.alloc z0box).alloc (spbox s)) w.heap.size 0 Spn.zero ∧ AtP ((w.alloc z0box).alloc (spbox s)) (w.heap.size + 1) 0 s ∧ (∀ o, ((w.alloc z0box).alloc (spbox s)).frozen? ⟨w.heap.size, o, none⟩ = false) ∧ w.heap.size + 1 < ((w.alloc z0box).alloc (spbox s)).heap.size) := by
    have h1 : XB (w.alloc z0box) w.heap.size Spn.zero := xb_new w Spn.zero
    have h2 : XB ((w.alloc z0box).alloc (spbox s)) (w.alloc z0box).heap.size s := xb_new (w.alloc z0box) s
    have hz : (w.alloc z0box).heap.size = w.heap.size + 1 := by simp
    refine ⟨⟨?_, ?_⟩, ⟨?_, ?_⟩, fun o => ?_, by simp⟩
    · rw [kb.cell (p := ⟨w.heap.size, 0, none⟩) (by rw [hz]; exact Nat.lt_succ_self _) (by omega)]; exact h1.at_ 0 _ rfl
    · rw [kb.cell (p := ⟨w.heap.size, 0 + 1, none⟩) (by rw [hz]; exact Nat.lt_succ_self _) (by omega)]; exact h1.at_ 1 _ rfl
    · rw [← hz]; exact h2.at_ 0 _ rfl
    · rw [← hz]; exact h2.at_ 1 _ rfl
    · rw [kb.frozen (p := ⟨w.heap.size, o, none⟩) (by rw [hz]; exact Nat.lt_succ_self _) (by omega)]; exact h1.fr o
  have HLT : Hid (R < w.heap.size ∧ g < w.heap.size) := ⟨f.lt, f.row.lt⟩
  have hR := f.lt
  have hg := f.row.lt
  have hi1 : (0 : Int) ≤ (i : Int) := by omega
  have hi2 : (i : Int) < (n : Int) := by omega
  clear hn f ka kb kk
  rw [← hs]
  clear hs
  go_enter Try.func141, Try.ntmps141
  go_upto_region 2 with fail
  clear y0 y1 y2 hR hg
  generalize (w.alloc z0box).alloc (spbox s) = w1 at HF HK HA ⊢
  obtain ⟨V, hV⟩ : ∃ V, V = w.heap.size := ⟨_, rfl⟩
  rw [← hV] at HA HLT ⊢
  have HVW : Hid _ := hV
  clear hV
  obtain ⟨k, hk⟩ : ∃ k, n = k + 1 := ⟨n - 1, by omega⟩
  have HD := delS w1 g cap i (i + 1) k n l HF.out.row HN.out hk rfl hi (by omega)
  rw [show ((i + 1 : Nat) : Int) = (i : Int) + 1 from rfl] at HD
  have HDD : Hid _ := HD
  have HKN : Hid _ := hk
  have y0 := HF.out.c0
  rw [HN.out] at y0
  have hw1 : IntKind.i64.wrap ((i : Int) + 1) = (i : Int) + 1 := by rw [IntKind.wrap_i64]; omega
  clear HD hk
  go_wp2_with fail
  refine Calls.mono HDD.out ?_
  rintro e w2 ⟨rfl, r2, c2⟩
  have hl : (l.take i ++ l.drop (i + 1)).length = k := by
    have h2 := HN.out
    have h3 := HKN.out
    rw [List.length_append, List.length_take, List.length_drop]
    omega
  have F2 := HF.out.put c2 r2 (.inl rfl)
  rw [hl] at F2
  have HF2 : Hid _ := F2
  have hne := HF.out.ne
  have z0 : w2.cell? ⟨R, 0, none⟩ = some (.slice (some ⟨g, 0, none⟩) n cap) := (c2.cell (p := ⟨R, 0, none⟩) HF.out.lt hne).trans y0
  have z1 : w2.frozen? ⟨R, 0, none⟩ = false := (c2.frozen (p := ⟨R, 0, none⟩) HF.out.lt hne).trans HF.out.fr
  have C2 : Chg (fun b => b = R ∨ b = g) w1 (w2.setCell ⟨R, 0, none⟩ (.slice (some ⟨g, 0, none⟩) k cap)) := Chg.andThen (c2.mono fun b _ h => .inr h) (chg_setCell w2 R 0 _ (.inl rfl))
  have HC2 : Hid _ := C2
  clear C2 c2 r2 F2 hl y0 hne HDD
  go_upto_region 3 with fail
  generalize w2.setCell ⟨R, 0, none⟩ (.slice (some ⟨g, 0, none⟩) k cap) = w3 at HF2 HC2 ⊢
  clear z0 z1
  have ev : ∀ o, w3.cell? ⟨V, o, none⟩ = w1.cell? ⟨V, o, none⟩ := fun o => HC2.out.cell (p := ⟨V, o, none⟩) (by have := HA.out.2.2.2; show V < _; omega) (by have := HLT.out; show ¬ (V = R ∨ V = g); omega)
  have ev1 : ∀ o, w3.cell? ⟨V + 1, o, none⟩ = w1.cell? ⟨V + 1, o, none⟩ := fun o => HC2.out.cell (p := ⟨V + 1, o, none⟩) (by have := HA.out.2.2.2; show V + 1 < _; omega) (by have := HLT.out; show ¬ (V + 1 = R ∨ V + 1 = g); omega)
  have evf : ∀ o, w3.frozen? ⟨V, o, none⟩ = w1.frozen? ⟨V, o, none⟩ := fun o => HC2.out.frozen (p := ⟨V, o, none⟩) (by have := HA.out.2.2.2; show V < _; omega) (by have := HLT.out; show ¬ (V = R ∨ V = g); omega)
  have a0 : w3.cell? ⟨V, 0, none⟩ = some (.int .i64 0) := (ev 0).trans HA.out.1.1
  have a1 : w3.cell? ⟨V, 1, none⟩ = some (.int .i64 0) := (ev 1).trans HA.out.1.2
  have b0 : w3.cell? ⟨V + 1, 0, none⟩ = some (.int .i64 s.off) := (ev1 0).trans HA.out.2.1.1
  have b1 : w3.cell? ⟨V + 1, 1, none⟩ = some (.int .i64 s.len) := (ev1 1).trans HA.out.2.1.2
  have f0 : ∀ o, w3.frozen? ⟨V, o, none⟩ = false := fun o => (evf o).trans (HA.out.2.2.1 o)
  have kV : Chg (fun b => b = V) w3 ((w3.setCell ⟨V, 0, none⟩ (.int .i64 s.off)).setCell ⟨V, 1, none⟩ (.int .i64 s.len)) := Chg.andThen (chg_setCell w3 V 0 _ rfl) (chg_setCell _ V 1 _ rfl)
  have R1 : Hid _ := HF2.out.keepC kV (by have := HLT.out; show ¬ (R = V); omega) (by have := HLT.out; show ¬ (g = V); omega)
  have R2 : Hid (Chg (fun b => b = R ∨ b = g) w ((w3.setCell ⟨V, 0, none⟩ (.int .i64 s.off)).setCell ⟨V, 1, none⟩ (.int .i64 s.len))) := Chg.new (Chg.andThen HK.out HC2.out) kV (fun i hi e => by have := HVW.out; omega)
  have v0 : ((w3.setCell ⟨V, 0, none⟩ (.int .i64 s.off)).setCell ⟨V, 1, none⟩ (.int .i64 s.len)).cell? ⟨V, 0, none⟩ = some (.int .i64 s.off) := by
    rw [cell_ne _ _ _ _ _ _ (.inr (by omega))]; exact cell_eq _ _ _ _ _ a0
  have v1 : ((w3.setCell ⟨V, 0, none⟩ (.int .i64 s.off)).setCell ⟨V, 1, none⟩ (.int .i64 s.len)).cell? ⟨V, 1, none⟩ = some (.int .i64 s.len) := by
    refine cell_eq _ _ _ _ _ (?_ : _ = some (.int .i64 0))
    rw [cell_ne _ _ _ _ _ _ (.inr (by omega))]; exact a1
  have HV0 : Hid _ := v0
  have HV1 : Hid _ := v1
  clear ev ev1 evf kV v0 v1 HF2 HC2
  go_wp2_with fail
  have v0 := HV0.out
  have v1 := HV1.out
  refine bodyPost_ret (v := s.agg) (by simp [results, Try.results141, go_sem, v0, v1]) rfl ⟨rfl, R1.out, R2.out⟩
end Go.Proofs.Ytdkjdlimcnddkaa
