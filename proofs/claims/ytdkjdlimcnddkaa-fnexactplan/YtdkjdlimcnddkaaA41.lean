import Derived.Test.YtdkjdlimcnddkaaA40
namespace Go.Proofs.Ytdkjdlimcnddkaa
open Go.RowKit Flt

set_option maxRecDepth 100000 in
set_option maxHeartbeats 4000000 in
theorem ins_end (w : World) (g cap n X : Nat) (l : List Spn) (x : Spn) (f : FRw w g cap l) (hn : l.length = n) (hx : XB w X x) (hb : n ≤ 2000000) :
    Calls Try.prog 167 #[.slice (some ⟨g, 0, none⟩) n cap, .int .i64 n, .slice (some ⟨X, 0, none⟩) 1 1] w fun e w' => ∃ g' cap', e = .returned (.slice (some ⟨g', 0, none⟩) (n + 1) cap') ∧ FRw w' g' cap' (l ++ [x]) ∧ Chg (fun b => b = g) w w' ∧ (g' = g ∨ g' = w.heap.size) := by
  have hnc := f.le
  have hcb := f.cb
  rw [hn] at hnc
  obtain ⟨g', cap', w', hrun, h1, h2, h3⟩ : ∃ g' cap' w', (Builtin.append_ #[37, 37] 37 #[.slice (some ⟨g, 0, none⟩) n cap, .slice (some ⟨X, 0, none⟩) 1 1]).run Try.prog w = .ok (.slice (some ⟨g', 0, none⟩) (n + 1) cap') w' ∧ FRw w' g' cap' (l ++ [x]) ∧ Chg (fun b => b = g) w w' ∧ (g' = g ∨ g' = w.heap.size) := by
    by_cases hr : n + 1 ≤ cap
    · obtain ⟨w', a, b, c⟩ := run_end_room w g cap n X l x f hn hx hr 37
      exact ⟨g, cap, w', a, b, c, .inl rfl⟩
    · obtain ⟨cap', w', a, b, c⟩ := run_end_grow w g cap n X l x f hn hx (by omega) hb 37
      exact ⟨w.heap.size, cap', w', a, b, c, .inr rfl⟩
  have H1 : Hid _ := h1
  have H2 : Hid _ := h2
  have H3 : Hid _ := h3
  clear h1 h2 h3 f hx hn
  go_enter Try.func167, Try.ntmps167
  go_wp2_with (at_builtin; refine Lib.wpList_append_run _ rfl _ _ _ _ rfl _ _ rfl rfl _ _ hrun ?_)
  all_goals
    go_ret
    exact ⟨g', cap', rfl, H1.out, H2.out, H3.out⟩

set_option maxRecDepth 100000 in
set_option maxHeartbeats 4000000 in
theorem ins_shift (w : World) (g cap i n m X : Nat) (l : List Spn) (x : Spn) (f : FRw w g cap l) (hn : l.length = n) (hx : XB w X x) (hXg : X ≠ g) (hb : n ≤ 2000000) (hm : m = 1) (hi : i < n) (hr : n + m ≤ cap) :
    Calls Try.prog 167 #[.slice (some ⟨g, 0, none⟩) n cap, .int .i64 i, .slice (some ⟨X, 0, none⟩) m 1] w fun e w' => e = .returned (.slice (some ⟨g, 0, none⟩) (n + m) cap) ∧ FRw w' g cap (l.take i ++ x :: l.drop i) ∧ Chg (fun b => b = g) w w' := by
  have hcb := f.cb
  obtain ⟨j0, hjj, hy0, hy1, hy2⟩ := info_parts infoSpn
  have hsz : (Try.prog.info? 83).map (·.size) = some 2 := by rw [hjj]; simp [hy1]
  obtain ⟨tA, kA, hsA⟩ := hx.shp
  have hov : ∀ lb cb, (callFunc 182 #[.slice (some ⟨X, 0, none⟩) m 1, .slice (some ⟨g, (i + m) * 2, none⟩) lb cb]).run Try.prog w = .ok (.value (.bool false)) w := fun lb cb => by
    rw [run_callFunc_extern Try.func182 (by kernel_rfl) (by kernel_rfl) (by kernel_rfl) (e := Extern.SlicesOverlaps.overlaps #[37, 37] #[4]) (by kernel_rfl),
      Lib.run_overlaps_apart w 37 4 83 Try.underlying37 2 (fun w => by simp [sizeOf, typeInfo, hjj, hy1]) ⟨X, 0, none⟩ ⟨g, (i + m) * 2, none⟩ m 1 lb cb hXg tA 83 kA (cap * 2) hsA f.shp (by omega) (hx.fr 0) (hx.fr kA)]
    rfl
  have hlt1 : (l.take (i + 1)).length = i + 1 := by rw [List.length_take]; omega
  have f1 : FRw w.drew g cap (l.take (i + 1) ++ l.drop (i + 1)) := by rw [List.take_append_drop]; exact f.keepC ((kept_drew w).chg (S := fun _ => False)) (fun h => h)
  have F1 := f1.tail (l.drop i) (by rw [List.length_append, hlt1, List.length_drop]; omega)
  rw [hlt1, show (i + 1) * 2 = (i + m) * 2 by rw [hm]] at F1
  have hti : l.take (i + 1) = l.take i ++ [l[i]'(by omega)] := (List.take_append_getElem (by omega)).symm
  rw [hti, List.append_assoc] at F1
  have F2 := FRw.one (pre := l.take i) (post := l.drop i) (y := l[i]'(by omega)) F1 x
  rw [List.length_take, Nat.min_eq_left (by omega)] at F2
  have hcp1 : ∀ ty dc sc, (Builtin.copy_ #[37, 37] ty #[.slice (some ⟨g, (i + m) * 2, none⟩) (n + m - (i + m)) dc, .slice (some ⟨g, i * 2, none⟩) (n + m - i) sc]).run Try.prog w.drew = .ok (goInt (Nat.min (n + m - i) (n + m - (i + m)))) (w.drew.setCells g ((i + m) * 2) (flatP (l.drop i))) := fun ty dc sc =>
    run_copy_wide w.drew _ _ ty 83 g ((i + m) * 2) (n + m - (i + m)) dc ⟨g, i * 2, none⟩ (n + m - i) sc 2 (flatP (l.drop i)) Try.underlying37 hsz
      (by rw [flatP_len, List.length_drop, hn]; congr 1; simp only [Nat.min_def]; split <;> omega)
      (fun j u hu => by
        rw [Addr.add_lit]
        refine f.at_ _ _ ?_
        rw [← List.take_append_drop i l, flatP_append, List.getElem?_append_right (by rw [flatP_len, List.length_take]; omega), flatP_len, List.length_take, hn]
        rw [show i * 2 + j - min i n * 2 = j by rw [Nat.min_eq_left (by omega)]; omega]
        exact hu)
      (fun j hj => f.room _ (by rw [flatP_len, List.length_drop, hn] at hj; omega)) (fun j _ => f.fr _) (flatP_one_cell _)
  obtain ⟨W1, hW1⟩ : ∃ W1, W1 = w.drew.setCells g ((i + m) * 2) (flatP (l.drop i)) := ⟨_, rfl⟩
  have C1 : Chg (fun b => b = g) w W1 := by rw [hW1]; exact Chg.andThen (kept_drew w).chg (chg_setCells (S := fun b => b = g) g rfl _ _ _)
  rw [← hW1] at hcp1 F1 F2
  have hcp2 : ∀ (W : World), (∀ y, W.cell? y = W1.cell? y) → (∀ y, W.frozen? y = W1.frozen? y) → ∀ ty dc, (Builtin.copy_ #[37, 37] ty #[.slice (some ⟨g, i * 2, none⟩) (n + m - i) dc, .slice (some ⟨X, 0, none⟩) m 1]).run Try.prog W = .ok (goInt (Nat.min m (n + m - i))) (W.setCells g (i * 2) x.cells) := fun W hWc hWf ty dc =>
    run_copy_wide W _ _ ty 83 g (i * 2) (n + m - i) dc ⟨X, 0, none⟩ m 1 2 x.cells Try.underlying37 hsz
      (by show 2 = _; rw [hm]; simp only [Nat.min_def]; split <;> omega)
      (fun j u hu => by
        rw [Addr.add_lit, hWc, Nat.zero_add, C1.cell (p := ⟨X, j, none⟩) hx.lt (by exact hXg)]
        exact hx.at_ j u hu)
      (fun j hj => by rw [hWc]; exact F1.room _ (by have : j < 2 := hj; omega)) (fun j hj => by rw [hWf]; exact F1.fr _) (by intro u hu; rw [← spn_cells] at hu; exact flatP_one_cell _ u hu)
  have H2 : Hid _ := F2
  have C2 : Hid (Chg (fun b => b = g) w (W1.setCells g (i * 2) x.cells)) := Chg.andThen C1 (chg_setCells (S := fun b => b = g) g rfl _ _ _)
  have hz1 : ¬ ((m : Int) = 0) := by omega
  have hz2 : ¬ ((i : Int) = (n : Int)) := by omega
  have hw1 : IntKind.i64.wrap ((i : Int) + (m : Int)) = (i : Int) + (m : Int) := by rw [IntKind.wrap_i64]; omega
  have hb1 : (0 : Int) ≤ (i : Int) + (m : Int) := by omega
  have hin : i ≤ n := by omega
  have htn : ((i : Int) + (m : Int)).toNat = i + m := by omega
  have hb2 : ¬ (cap = i + m) := by omega
  have hb3 : (i : Int) ≤ (n : Int) + (m : Int) := by omega
  have hb4 : ¬ (cap = i) := by omega
  clear f hx f1 F1 F2 C1 hti hlt1 hW1 hm hn
  go_enter Try.func167, Try.ntmps167
  go_wp2_with (simp only [hov])
  go_region_law (refine step_copy_runI rfl (.tmp 73) (.tmp 76) 37 37 rfl _ _ (by simp [Act.eval, Act.put]) (by simp [Act.eval, Act.put]) (hcp1 _ _ _) ?_)
  go_wp2_with (at_builtin; refine wpList_copy_runI _ rfl _ _ 37 37 rfl _ _ rfl rfl (hcp2 _ (fun _ => rfl) (fun _ => rfl) _ _) ?_)
  go_ret
  exact ⟨rfl, H2.out, C2.out⟩
end Go.Proofs.Ytdkjdlimcnddkaa

namespace Go.Proofs.Ytdkjdlimcnddkaa
open Go.RowKit Flt

set_option maxRecDepth 100000 in
set_option maxHeartbeats 4000000 in
theorem ins_grow (w : World) (g cap i n m X : Nat) (l : List Spn) (x : Spn) (f : FRw w g cap l) (hn : l.length = n) (hx : XB w X x) (hb : n ≤ 2000000) (hm : m = 1) (hi : i < n) (hr : cap < n + m) :
    Calls Try.prog 167 #[.slice (some ⟨g, 0, none⟩) n cap, .int .i64 i, .slice (some ⟨X, 0, none⟩) m 1] w fun e w' => ∃ cap', e = .returned (.slice (some ⟨w.heap.size, 0, none⟩) (n + m) cap') ∧ FRw w' w.heap.size cap' (l.take i ++ x :: l.drop i) ∧ Chg (fun b => b = g) w w' := by
  have hcb := f.cb
  have hnc := f.le
  rw [hn] at hnc
  obtain ⟨j0, hjj, hy0, hy1, hy2⟩ := info_parts infoSpn
  have hsz : (Try.prog.info? 83).map (·.size) = some 2 := by rw [hjj]; simp [hy1]
  have hlt : (l.take i).length = i := by rw [List.length_take]; omega
  have hold : (Builtin.firstCells j0.size i (.slice (some ⟨g, 0, none⟩) i cap)).run Try.prog w.drew = .ok (flatP (l.take i)).toArray w.drew :=
    run_firstCells_some w.drew _ i ⟨g, 0, none⟩ i cap (flatP (l.take i)) (by rw [flatP_len, hlt, hy1]) (fun j u hu => by
      rw [Addr.add_lit, Nat.zero_add]
      refine f.at_ j u ?_
      have hj := (List.getElem?_eq_some_iff.1 hu).1
      rw [← List.take_append_drop i l, flatP_append, List.getElem?_append_left hj]
      exact hu)
  have hik : i + (n + m - i) = n + m := by omega
  have hkk : (n : Int) + (m : Int) - (i : Int) = ((n + m - i : Nat) : Int) := by omega
  have hrz0 := Lib.run_append_grow_zeros (P := Try.prog) w 37 3 37 83 j0 _ .i64 .i64 Try.underlying37 Try.underlying3 hjj hy0 (some ⟨g, 0, none⟩) i cap (flatP (l.take i)) hold (n + m - i) (by omega) (by omega) (by omega) (by omega) (by rw [hy2]; omega) (by rw [hy2, hik]; exact growslice_fits hr (by omega))
  rw [hik] at hrz0
  have hge := grownCap_ge w (n + m) cap 83
  have hle := grownCap_le_maxLen w (n + m) cap 83 (by unfold maxLen; omega)
  unfold maxLen at hle
  generalize grownCap w (n + m) cap 83 = G at hrz0 hge hle
  have hle' : G ≤ 9223372036854775807 := by omega
  have F0 : FRw (w.drew.alloc (.cells ((flatP (l.take i)).toArray ++ Builtin.zeroCells (Value.agg #[.int .i64 0, .int .i64 0]).cells (n + m - i) ++ Builtin.zeroCells (Value.agg #[.int .i64 0, .int .i64 0]).cells (G - (n + m))) 83)) w.heap.size G (l.take i ++ []) := by
    rw [List.append_nil]
    refine frw_row w.drew _ (l.take i) G (by omega) hle' ?_ ?_
    · rw [Array.size_append, Array.size_append, zc_size, zc_size, List.size_toArray, flatP_len, hlt]
      omega
    · intro j u hu
      have hj := (List.getElem?_eq_some_iff.1 hu).1
      rw [Array.append_assoc, Array.getElem?_append_left (by rw [List.size_toArray]; exact hj), List.getElem?_toArray]
      exact hu
  have C0 : Chg (fun b => b = g) w (w.drew.alloc (.cells ((flatP (l.take i)).toArray ++ Builtin.zeroCells (Value.agg #[.int .i64 0, .int .i64 0]).cells (n + m - i) ++ Builtin.zeroCells (Value.agg #[.int .i64 0, .int .i64 0]).cells (G - (n + m))) 83)) := Chg.andThen (kept_drew w).chg (kept_alloc 0 0 w.drew _).chg
  have K0 : Chg (fun _ => False) w (w.drew.alloc (.cells ((flatP (l.take i)).toArray ++ Builtin.zeroCells (Value.agg #[.int .i64 0, .int .i64 0]).cells (n + m - i) ++ Builtin.zeroCells (Value.agg #[.int .i64 0, .int .i64 0]).cells (G - (n + m))) 83)) := Chg.andThen (kept_drew w).chg (kept_alloc 0 0 w.drew _).chg
  generalize w.drew.alloc (.cells ((flatP (l.take i)).toArray ++ Builtin.zeroCells (Value.agg #[.int .i64 0, .int .i64 0]).cells (n + m - i) ++ Builtin.zeroCells (Value.agg #[.int .i64 0, .int .i64 0]).cells (G - (n + m))) 83) = W1 at hrz0 F0 C0 K0
  rw [← hkk] at hrz0
  have hgH : g < w.heap.size := f.lt
  have hXH : X < w.heap.size := hx.lt
  obtain ⟨H, hH⟩ : ∃ H, H = w.heap.size := ⟨_, rfl⟩
  have hHH : w.heap.size ≤ H := by omega
  rw [← hH] at hrz0 F0 hgH hXH ⊢
  clear hH
  have F1 := F0.tail [x] (by rw [List.length_append, hlt]; show i + 1 ≤ G; omega)
  rw [hlt, spn_cells] at F1
  have F1' : FRw (W1.setCells H (i * 2) x.cells) H G ((l.take i ++ [x]) ++ []) := by rw [List.append_nil]; exact F1
  have F2 := F1'.tail (l.drop i) (by rw [List.length_append, List.length_append, hlt, List.length_drop]; show i + 1 + _ ≤ _; omega)
  rw [List.length_append, hlt, show (i + [x].length) * 2 = (i + m) * 2 by rw [hm]; rfl, List.append_assoc] at F2
  have hcpA : ∀ ty dc, (Builtin.copy_ #[37, 37] ty #[.slice (some ⟨H, i * 2, none⟩) (n + m - i) dc, .slice (some ⟨X, 0, none⟩) m 1]).run Try.prog W1 = .ok (goInt (Nat.min m (n + m - i))) (W1.setCells H (i * 2) x.cells) := fun ty dc =>
    run_copy_wide W1 _ _ ty 83 H (i * 2) (n + m - i) dc ⟨X, 0, none⟩ m 1 2 x.cells Try.underlying37 hsz
      (by show 2 = _; rw [hm]; simp only [Nat.min_def]; split <;> omega)
      (fun j u hu => by
        rw [Addr.add_lit, Nat.zero_add, K0.cell (p := ⟨X, j, none⟩) hx.lt (fun h => h)]
        exact hx.at_ j u hu)
      (fun j hj => F0.room _ (by have : j < 2 := hj; omega)) (fun j hj => F0.fr _) (by intro u hu; rw [← spn_cells] at hu; exact flatP_one_cell _ u hu)
  obtain ⟨W2, hW2⟩ : ∃ W2, W2 = W1.setCells H (i * 2) x.cells := ⟨_, rfl⟩
  have hat2 : ∀ (j : Nat) (u : Value), (flatP l)[j]? = some u → W2.cell? ⟨g, j, none⟩ = some u := fun j u hu => by
    rw [hW2, (chg_setCells (S := fun b => b = H) H rfl x.cells (i * 2) W1).cell (p := ⟨g, j, none⟩) (Nat.lt_of_lt_of_le f.lt K0.size) (by show ¬ (g = H); omega), K0.cell (p := ⟨g, j, none⟩) f.lt (fun h => h)]
    exact f.at_ j u hu
  rw [← hW2] at hcpA F1 F1' F2
  have hcpB : ∀ (W : World), (∀ y, W.cell? y = W2.cell? y) → (∀ y, W.frozen? y = W2.frozen? y) → ∀ ty dc sc, (Builtin.copy_ #[37, 37] ty #[.slice (some ⟨H, (i + m) * 2, none⟩) (n + m - (i + m)) dc, .slice (some ⟨g, i * 2, none⟩) (n - i) sc]).run Try.prog W = .ok (goInt (Nat.min (n - i) (n + m - (i + m)))) (W.setCells H ((i + m) * 2) (flatP (l.drop i))) := fun W hWc hWf ty dc sc =>
    run_copy_wide W _ _ ty 83 H ((i + m) * 2) (n + m - (i + m)) dc ⟨g, i * 2, none⟩ (n - i) sc 2 (flatP (l.drop i)) Try.underlying37 hsz
      (by rw [flatP_len, List.length_drop, hn]; congr 1; simp only [Nat.min_def]; split <;> omega)
      (fun j u hu => by
        rw [Addr.add_lit, hWc]
        refine hat2 _ _ ?_
        rw [← List.take_append_drop i l, flatP_append, List.getElem?_append_right (by rw [flatP_len, List.length_take]; omega), flatP_len, List.length_take, hn]
        rw [show i * 2 + j - min i n * 2 = j by rw [Nat.min_eq_left (by omega)]; omega]
        exact hu)
      (fun j hj => by rw [hWc]; exact F1.room _ (by rw [flatP_len, List.length_drop, hn] at hj; omega)) (fun j hj => by rw [hWf]; exact F1.fr _) (flatP_one_cell _)
  have C2 : Chg (fun b => b = g) w W2 := by
    rw [hW2]
    exact Chg.new C0 (chg_setCells (S := fun b => b = H) H rfl _ _ _) (fun k hk e => by omega)
  have H3 : Hid (FRw (W2.drew.setCells H ((i + m) * 2) (flatP (l.drop i))) H G (l.take i ++ x :: l.drop i)) := by
    have := F2.keepC ((kept_drew _).chg (S := fun _ => False)) (fun h => h)
    rw [drew_setCells] at this
    exact this
  have C3 : Hid (Chg (fun b => b = g) w (W2.drew.setCells H ((i + m) * 2) (flatP (l.drop i)))) := Chg.new (Chg.andThen C2 (kept_drew W2).chg) (chg_setCells (S := fun b => b = H) H rfl _ _ _) (fun k hk e => by omega)
  have hz1 : ¬ ((m : Int) = 0) := by omega
  have hz2 : ¬ ((i : Int) = (n : Int)) := by omega
  have hz3 : (cap : Int) < (n : Int) + (m : Int) := by omega
  have hw1 : IntKind.i64.wrap ((i : Int) + (m : Int)) = (i : Int) + (m : Int) := by rw [IntKind.wrap_i64]; omega
  have hb1 : (0 : Int) ≤ (i : Int) + (m : Int) := by omega
  have hin : i ≤ n := by omega
  have htn : ((i : Int) + (m : Int)).toNat = i + m := by omega
  have hb3 : (i : Int) ≤ (n : Int) := by omega
  have hGi : ¬ (G = i) := by omega
  have hGim : ¬ (G = i + m) := by omega
  have hci : ¬ (cap = i) := by omega
  clear f hx F0 F1 F1' F2 C0 K0 C2 hlt hW2 hm hn hold hat2 hik hkk hHH hgH hXH
  go_enter Try.func167, Try.ntmps167
  go_wp2_with (first
    | (at_builtin; refine Lib.wpList_append_run _ rfl _ _ _ _ rfl _ _ rfl rfl _ _ hrz0 ?_)
    | (at_builtin; refine wpList_copy_runI _ rfl _ _ 37 37 rfl _ _ rfl rfl (hcpA _ _) ?_))
  go_region_law (refine step_copy_runI rfl (.tmp 50) (.tmp 53) 37 37 rfl (.slice (some ⟨H, (i + m) * 2, none⟩) (n + m - (i + m)) (G - (i + m))) (.slice (some ⟨g, i * 2, none⟩) (n - i) (cap - i)) (by simp [Act.eval, Act.put]) (by simp [Act.eval, Act.put]) (hcpB W2.drew (fun _ => rfl) (fun _ => rfl) 3 (G - (i + m)) (cap - i)) ?_)
  go_wp2
  go_ret
  exact ⟨G, rfl, H3.out, C3.out⟩
end Go.Proofs.Ytdkjdlimcnddkaa
