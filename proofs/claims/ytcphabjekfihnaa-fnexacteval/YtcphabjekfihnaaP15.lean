import Derived.Test.YtcphabjekfihnaaP14
namespace Go.Proofs.Ytcphabjekfihnaa
open Go.RowKit Flt
attribute [local go_sem] alloc_drewN setCell_drewN run_store_float

theorem l1each_r (op : Int) (w : World) (h0 : 0 ≤ op) (h1 : op ≤ 13) : Calls Try.prog 78 #[.int .i64 op] w fun e w' => e = .returned (.bool (each1 op)) ∧ w = w' :=
  (l1each op w h0 h1).mono fun _ _ h => ⟨h.1, h.2.symm⟩
theorem l1operands_r (op : Int) (w : World) (h0 : 0 ≤ op) (h1 : op ≤ 13) : Calls Try.prog 79 #[.int .i64 op] w fun e w' => e = .returned (.int .i64 (ops1 op : Nat)) ∧ w = w' :=
  (l1operands op w h0 h1).mono fun _ _ h => ⟨h.1, h.2.symm⟩
/-- A list that grows by append: its first k elements stand, in the call's own blocks. -/
def Grow (w1 : World) (k : Nat) (q : Nat → Nat) (v : Value) (W : World) : Prop :=
  ∃ zs : List Nat, W.ownsRow w1.heap.size 23 1 v k (zs.map (Value.float .f64)) ∧ zs.length = k ∧ (∀ z ∈ zs, z < 18446744073709551616) ∧ (∀ j, j < k → fb (zs.getD j 0) = fb (q j)) ∧ Kept 0 0 w1 W
theorem grow_start (w1 : World) (q : Nat → Nat) : Grow w1 0 q (.slice none 0 0) w1 :=
  ⟨[], World.ownsRow_nil _ _ _ _, rfl, by simp, fun j hj => by omega, Kept.refl _ _ _⟩
theorem Grow.kept {w1 : World} {k : Nat} {q : Nat → Nat} {v : Value} {W : World} (h : Grow w1 k q v W) : Kept 0 0 w1 W := by
  obtain ⟨_, _, _, _, _, h⟩ := h; exact h
theorem own_drawn {base e size n : Nat} {v : Value} {xs : List Value} {W W' : World} (h : W.ownsRow base e size v n xs) (d : Drawn W W') : W'.ownsRow base e size v n xs := by
  obtain ⟨m, rfl⟩ := d; exact h
theorem Grow.step {w1 : World} {k : Nat} {q : Nat → Nat} {v : Value} {W : World} {zs : List Nat} {z : Nat}
    (hown : W.ownsRow w1.heap.size 23 1 v k (zs.map (Value.float .f64))) (hl : zs.length = k) (hlt : ∀ z ∈ zs, z < 18446744073709551616) (hq : ∀ j, j < k → fb (zs.getD j 0) = fb (q j)) (hK : Kept 0 0 w1 W)
    (hz : z < 18446744073709551616) (hzq : fb z = fb (q k)) {v' : Value} {w' : World} {o : Obj}
    (hown' : w'.ownsRow w1.heap.size 23 1 v' (k + 1) (zs.map (Value.float .f64) ++ [Value.float .f64 z])) (hg : (W.alloc o).grownBy w' v.ownBlock) : Grow w1 (k + 1) q v' w' := by
  refine ⟨zs ++ [z], by rw [List.map_append]; exact hown', by simp [hl], ?_, ?_, ?_⟩
  · intro x hx
    rcases List.mem_append.1 hx with c | c
    · exact hlt x c
    · simp at c; rw [c]; exact hz
  · intro j hj
    rw [List.getD_eq_getElem?_getD, List.getElem?_append]
    by_cases c : j < zs.length
    · rw [if_pos c, ← List.getD_eq_getElem?_getD]; exact hq j (by omega)
    · rw [if_neg c, show j - zs.length = 0 by omega]
      have : j = k := by omega
      subst this
      exact hzq
  · refine ⟨hg.os.trans hK.os, hg.tape.trans hK.tape, hg.output.trans hK.output, ?_, fun i hi _ => ?_⟩
    · have := hg.size
      have h2 := hK.size
      simp at this
      omega
    · have h2 := hK.size
      rw [hg.block i (by simp; omega) (fun c => by have := hown.lt i c.symm; omega), Below.heap_alloc W o i (by omega)]
      exact hK.block i hi (by omega)

/-- A list of floats in new memory that is only read, element k the same as q k. -/
def KS (n : Nat) (q : Nat → Nat) (w : World) (e : Ending) (w' : World) : Prop :=
  ∃ (a : Option Addr) (cap : Nat) (zs : List Nat), e = .returned (.slice a n cap) ∧ FS w' w.heap.size w'.heap.size a n zs ∧ (∀ k, k < n → fb (zs.getD k 0) = fb (q k)) ∧ Kept 0 0 w w' ∧ n ≤ cap
theorem Grow.done {w w1 : World} {n : Nat} {q : Nat → Nat} {v : Value} {W : World} (h : Grow w1 n q v W) (h1 : 1 ≤ n) (hk : Kept 0 0 w w1) : KS n q w (.returned v) W := by
  obtain ⟨zs, ⟨_, ho⟩, h2, h3, h4, h5⟩ := h
  rcases ho with ⟨_, c⟩ | ⟨g, cap, cur, rfl, b1, b2, b3, _, b5, b6⟩
  · omega
  · have hs : w.heap.size ≤ g := by have := hk.size; omega
    have hg : g < W.heap.size := by
      rcases Nat.lt_or_ge g W.heap.size with c | c
      · exact c
      · rw [Array.getElem?_eq_none c] at b2; cases b2
    refine ⟨_, cap, zs, rfl, ⟨h2, h3, .inr ⟨g, 0, rfl, hs, hg, hg, fun k hk' => ?_⟩⟩, h4, hk.trans h5, b3⟩
    rw [cell_of_row W g _ cur _ _ b2, Nat.zero_add, ← Array.getElem?_toList]
    have : (cur.toList.take (n * 1))[k]? = (zs.map (Value.float .f64))[k]? := by rw [b6]
    rw [List.getElem?_take_of_lt (by omega)] at this
    rw [this, List.getElem?_map, List.getElem?_eq_getElem (by omega : k < zs.length)]
    simp [List.getD_eq_getElem?_getD, List.getElem?_eq_getElem (by omega : k < zs.length)]

set_option maxRecDepth 100000 in
set_option maxHeartbeats 2000000 in
theorem specKernel_bad (w : World) (op len A B C : Int) (K : Nat) (a b c : Option Addr) (la lb lc ca cb cc : Nat) (hs : fitB op len C la lb lc = false) :
    Calls Try.prog 28 #[vagg op len A B C K, .slice a la ca, .slice b lb cb, .slice c lc cc] w fun e w' => e = .returned (.slice none 0 0) ∧ Kept 0 0 w w' := by
  go_enter Try.func28, Try.ntmps28
  go_wp2_with fail
  refine (l1fits _ op len A B C K la lb lc).mono ?_
  rintro e w' ⟨rfl, rfl⟩
  rw [hs]
  go_wp2
  go_ret
  exact ⟨rfl, (kept_alloc 0 0 w _).trans (kept_alloc 0 0 _ _)⟩

set_option maxRecDepth 100000 in
set_option maxHeartbeats 800000 in
theorem specKernel_1 (w : World) (A B C : Int) (n K : Nat) (h1 : 1 ≤ n) (hn : n ≤ 1000) (hK : K < 18446744073709551616) {l0 h0' l1 h1' l2 h2' : Nat} {a b c : Option Addr} {la lb lc ca cb cc : Nat} {xa xb xc : List Nat}
    (_fa : FS w l0 h0' a la xa) (_fb : FS w l1 h1' b lb xb) (_fc : FS w l2 h2' c lc xc) (_hca : la ≤ ca) (hs : fitB 1 (n : Int) C la lb lc = true) :
    Calls Try.prog 28 #[vagg 1 (n : Int) A B C K, .slice a la ca, .slice b lb cb, .slice c lc cc] w fun e w' => KS n (elem 1 C K xa xb xc) w e w' := by
  have HS := hs
  obtain ⟨i0, hi, hz0, hz1, hz2⟩ := info_parts infoF
  clear HS
  have hW : Hid _ := (kept_alloc 0 0 w (vbox 1 (n : Int) A B C K)).trans (kept_alloc 0 0 _ (vbox 1 (n : Int) A B C K))
  have b0 : ((w.alloc (vbox 1 (n : Int) A B C K)).alloc (vbox 1 (n : Int) A B C K)).cell? ⟨w.heap.size, 0, none⟩ = some (.int .i64 1) := by simp
  have b1 : ((w.alloc (vbox 1 (n : Int) A B C K)).alloc (vbox 1 (n : Int) A B C K)).cell? ⟨w.heap.size, 1, none⟩ = some (.int .i64 (n : Int)) := by simp
  have b4 : ((w.alloc (vbox 1 (n : Int) A B C K)).alloc (vbox 1 (n : Int) A B C K)).cell? ⟨w.heap.size, 4, none⟩ = some (.int .i64 C) := by simp
  have b5 : ((w.alloc (vbox 1 (n : Int) A B C K)).alloc (vbox 1 (n : Int) A B C K)).cell? ⟨w.heap.size, 5, none⟩ = some (.float .f64 K) := by simp
  have bs : w.heap.size < ((w.alloc (vbox 1 (n : Int) A B C K)).alloc (vbox 1 (n : Int) A B C K)).heap.size := by simp; omega
  go_enter Try.func28, Try.ntmps28
  go_wp2_with fail
  refine (l1fits _ 1 (n : Int) A B C K la lb lc).mono ?_
  rintro e w' ⟨rfl, rfl⟩
  rw [hs]
  clear hs
  go_wp2_with fail
  have hG := grow_start ((w.alloc (vbox 1 (n : Int) A B C K)).alloc (vbox 1 (n : Int) A B C K)) (elem 1 C K xa xb xc)
  generalize hw1 : (w.alloc (vbox 1 (n : Int) A B C K)).alloc (vbox 1 (n : Int) A B C K) = w1 at b0 b1 b4 b5 bs hW hG ⊢
  clear hw1
  go_loopw [9, 10, 11, 12, 13, 14] (fun v i _ _ _ _ W => ∃ k : Nat, k ≤ n ∧ i = .int .i64 k ∧ Grow w1 k (elem 1 C K xa xb xc) v W) (fun _ i _ _ _ _ _ => n - (intOf i).toNat)
  case atStart => exact ⟨0, Nat.zero_le _, rfl, hG⟩
  case round =>
    obtain ⟨k, hk, rfl, hG2⟩ := hrel
    clear hG
    have hKW := hG2.kept
    have d1 := kept_cell hKW bs b1
    by_cases hlt : k < n
    · obtain ⟨zs, hown, hzl, hzlt, hzq, _⟩ := hG2
      have d0 := kept_cell hKW bs b0
      have d5 := kept_cell hKW bs b5
      have HE : Hid (fb K = fb (elem 1 C K xa xb xc k)) := by show fb K = fb (elem 1 C K xa xb xc k); simp [elem]
      go_wp2_with (first | (go_at_call 78; refine (l1each_r _ _ (by omega) (by omega)).mono ?_; rintro e w2 ⟨rfl, rfl⟩; simp only [show each1 1 = false from rfl]) | (at_builtin; refine wpList_append_own _ rfl _ _ 38 rfl w1.heap.size 23 i0 (.float .f64 0) 1 8 Try.underlying38 hi hz0 hz1 hz2 rfl (by decide) _ _ _ rfl (hown.alloc _) ⟨wr.heap.size, 0, none⟩ 1 1 [.float .f64 K] rfl rfl ?c1 ?c2 ?c3 ?c4 ?c5 ?_))
      case c1 => exact cell_one_new _ _ _
      case c2 => intro u hu; simp at hu; subst hu; rfl
      case c3 => unfold maxLen; omega
      case c4 => omega
      case c5 => have := hKW.size; simp; omega
      intro v' w9 hown9 hg9 _
      have R : Hid _ := Grow.step hown hzl hzlt hzq hKW hK HE.out hown9 hg9
      clear hown9 hg9 hown hzl hzlt hzq hKW
      go_wp2
      go_roundw
      case rel => exact ⟨k + 1, by omega, by go_num, R.out⟩
      case measure => simp [intOf]; omega
    · obtain rfl : k = n := by omega
      have R : Hid _ := hG2.done h1 hW.out
      clear hG2 hKW
      go_wp2
      go_ret
      exact R.out

set_option maxRecDepth 100000 in
set_option maxHeartbeats 800000 in
theorem specKernel_2 (w : World) (A B C : Int) (n K : Nat) (h1 : 1 ≤ n) (hn : n ≤ 1000) (_hK : K < 18446744073709551616) {l0 h0' l1 h1' l2 h2' : Nat} {a b c : Option Addr} {la lb lc ca cb cc : Nat} {xa xb xc : List Nat}
    (fa : FS w l0 h0' a la xa) (fb' : FS w l1 h1' b lb xb) (_fc : FS w l2 h2' c lc xc) (_hca : la ≤ ca) (hs : fitB 2 (n : Int) C la lb lc = true) :
    Calls Try.prog 28 #[vagg 2 (n : Int) A B C K, .slice a la ca, .slice b lb cb, .slice c lc cc] w fun e w' => KS n (elem 2 C K xa xb xc) w e w' := by
  have HS := hs
  obtain ⟨i0, hi, hz0, hz1, hz2⟩ := info_parts infoF
  have hfit : (la ≤ n ∧ n ≤ la) ∧ (lb ≤ n ∧ n ≤ lb) := by simp [fitB, shapeB, cnt, lenB] at HS; omega
  obtain ⟨⟨ea, ea2⟩, ⟨eb, eb2⟩⟩ := hfit
  clear HS
  rcases fa.at_ with hz | ⟨ga, oa, rfl, _, _, gla, kca⟩
  · omega
  rcases fb'.at_ with hz | ⟨gb, ob, rfl, _, _, glb, kcb⟩
  · omega
  have hW : Hid _ := (kept_alloc 0 0 w (vbox 2 (n : Int) A B C K)).trans (kept_alloc 0 0 _ (vbox 2 (n : Int) A B C K))
  have b0 : ((w.alloc (vbox 2 (n : Int) A B C K)).alloc (vbox 2 (n : Int) A B C K)).cell? ⟨w.heap.size, 0, none⟩ = some (.int .i64 2) := by simp
  have b1 : ((w.alloc (vbox 2 (n : Int) A B C K)).alloc (vbox 2 (n : Int) A B C K)).cell? ⟨w.heap.size, 1, none⟩ = some (.int .i64 (n : Int)) := by simp
  have b4 : ((w.alloc (vbox 2 (n : Int) A B C K)).alloc (vbox 2 (n : Int) A B C K)).cell? ⟨w.heap.size, 4, none⟩ = some (.int .i64 C) := by simp
  have b5 : ((w.alloc (vbox 2 (n : Int) A B C K)).alloc (vbox 2 (n : Int) A B C K)).cell? ⟨w.heap.size, 5, none⟩ = some (.float .f64 K) := by simp
  have bs : w.heap.size < ((w.alloc (vbox 2 (n : Int) A B C K)).alloc (vbox 2 (n : Int) A B C K)).heap.size := by simp; omega
  go_enter Try.func28, Try.ntmps28
  go_wp2_with fail
  refine (l1fits _ 2 (n : Int) A B C K la lb lc).mono ?_
  rintro e w' ⟨rfl, rfl⟩
  rw [hs]
  clear hs
  go_wp2_with fail
  have hG := grow_start ((w.alloc (vbox 2 (n : Int) A B C K)).alloc (vbox 2 (n : Int) A B C K)) (elem 2 C K xa xb xc)
  generalize hw1 : (w.alloc (vbox 2 (n : Int) A B C K)).alloc (vbox 2 (n : Int) A B C K) = w1 at b0 b1 b4 b5 bs hW hG ⊢
  clear hw1
  go_loopw [9, 10, 11, 12, 13, 14] (fun v i _ _ _ _ W => ∃ k : Nat, k ≤ n ∧ i = .int .i64 k ∧ Grow w1 k (elem 2 C K xa xb xc) v W) (fun _ i _ _ _ _ _ => n - (intOf i).toNat)
  case atStart => exact ⟨0, Nat.zero_le _, rfl, hG⟩
  case round =>
    obtain ⟨k, hk, rfl, hG2⟩ := hrel
    clear hG
    have hKW := hG2.kept
    have d1 := kept_cell hKW bs b1
    by_cases hlt : k < n
    · obtain ⟨zs, hown, hzl, hzlt, hzq, _⟩ := hG2
      have d0 := kept_cell hKW bs b0
      have d5 := kept_cell hKW bs b5
      have xca := kept_cell hKW (Nat.lt_of_lt_of_le gla hW.out.size) ((by rw [hW.out.cell (p := ⟨ga, oa + k, none⟩) gla (by omega)]; exact kca k (by omega)) : w1.cell? ⟨ga, oa + k, none⟩ = some (.float .f64 (xa.getD k 0)))
      have xcb := kept_cell hKW (Nat.lt_of_lt_of_le glb hW.out.size) ((by rw [hW.out.cell (p := ⟨gb, ob + k, none⟩) glb (by omega)]; exact kcb k (by omega)) : w1.cell? ⟨gb, ob + k, none⟩ = some (.float .f64 (xb.getD k 0)))
      have ya : Hid _ := getD_lt fa.lt k
      have yb : Hid _ := getD_lt fb'.lt k
      have HE : Hid (∀ u, fb u = fb (one1 2 (xa.getD k 0) (xb.getD k 0) 0) → fb u = fb (elem 2 C K xa xb xc k)) := fun u h => by rw [h]; simp [one1, elem]
      generalize xa.getD k 0 = ua at xca ya HE
      generalize xb.getD k 0 = ub at xcb yb HE
      have haa : (k : Int) < (la : Int) := by omega
      have hbb : (k : Int) < (lb : Int) := by omega
      go_wp2_with (first | (go_at_call 78; refine (l1each_r _ _ (by omega) (by omega)).mono ?_; rintro e w2 ⟨rfl, rfl⟩; simp only [show each1 2 = true from rfl]) | (go_at_call 79; refine (l1operands_r _ _ (by omega) (by omega)).mono ?_; rintro e w2 ⟨rfl, rfl⟩; simp only [show ops1 2 = 2 from rfl]))
      refine (l1one 2 _ _ _ _ ya.out yb.out (by omega) (by omega)).mono ?_
      rintro e w2 ⟨u, rfl, hu, hfu, hD⟩
      have hfu2 : Hid _ := HE.out u hfu
      have hown2 := own_drawn hown hD
      have hKW2 := hKW.trans (hD.kept 0 0)
      clear hfu
      go_wp2_with (first | (go_at_call 78; refine (l1each_r _ _ (by omega) (by omega)).mono ?_; rintro e w2 ⟨rfl, rfl⟩; simp only [show each1 2 = true from rfl]) | (at_builtin; refine wpList_append_own _ rfl _ _ 38 rfl w1.heap.size 23 i0 (.float .f64 0) 1 8 Try.underlying38 hi hz0 hz1 hz2 rfl (by decide) _ _ _ rfl (hown2.alloc _) ⟨w2.heap.size, 0, none⟩ 1 1 [.float .f64 u] rfl rfl ?c1 ?c2 ?c3 ?c4 ?c5 ?_))
      case c1 => exact cell_one_new _ _ _
      case c2 => intro u hu; simp at hu; subst hu; rfl
      case c3 => unfold maxLen; omega
      case c4 => omega
      case c5 => have := hKW2.size; simp; omega
      intro v' w9 hown9 hg9 _
      have R : Hid _ := Grow.step hown2 hzl hzlt hzq hKW2 hu hfu2.out hown9 hg9
      clear hown9 hg9 hown hzl hzlt hzq hKW
      go_wp2
      go_roundw
      case rel => exact ⟨k + 1, by omega, by go_num, R.out⟩
      case measure => simp [intOf]; omega
    · obtain rfl : k = n := by omega
      have R : Hid _ := hG2.done h1 hW.out
      clear hG2 hKW
      go_wp2
      go_ret
      exact R.out

set_option maxRecDepth 100000 in
set_option maxHeartbeats 800000 in
theorem specKernel_3 (w : World) (A B C : Int) (n K : Nat) (h1 : 1 ≤ n) (hn : n ≤ 1000) (_hK : K < 18446744073709551616) {l0 h0' l1 h1' l2 h2' : Nat} {a b c : Option Addr} {la lb lc ca cb cc : Nat} {xa xb xc : List Nat}
    (fa : FS w l0 h0' a la xa) (fb' : FS w l1 h1' b lb xb) (_fc : FS w l2 h2' c lc xc) (_hca : la ≤ ca) (hs : fitB 3 (n : Int) C la lb lc = true) :
    Calls Try.prog 28 #[vagg 3 (n : Int) A B C K, .slice a la ca, .slice b lb cb, .slice c lc cc] w fun e w' => KS n (elem 3 C K xa xb xc) w e w' := by
  have HS := hs
  obtain ⟨i0, hi, hz0, hz1, hz2⟩ := info_parts infoF
  have hfit : (la ≤ n ∧ n ≤ la) ∧ (lb ≤ n ∧ n ≤ lb) := by simp [fitB, shapeB, cnt, lenB] at HS; omega
  obtain ⟨⟨ea, ea2⟩, ⟨eb, eb2⟩⟩ := hfit
  clear HS
  rcases fa.at_ with hz | ⟨ga, oa, rfl, _, _, gla, kca⟩
  · omega
  rcases fb'.at_ with hz | ⟨gb, ob, rfl, _, _, glb, kcb⟩
  · omega
  have hW : Hid _ := (kept_alloc 0 0 w (vbox 3 (n : Int) A B C K)).trans (kept_alloc 0 0 _ (vbox 3 (n : Int) A B C K))
  have b0 : ((w.alloc (vbox 3 (n : Int) A B C K)).alloc (vbox 3 (n : Int) A B C K)).cell? ⟨w.heap.size, 0, none⟩ = some (.int .i64 3) := by simp
  have b1 : ((w.alloc (vbox 3 (n : Int) A B C K)).alloc (vbox 3 (n : Int) A B C K)).cell? ⟨w.heap.size, 1, none⟩ = some (.int .i64 (n : Int)) := by simp
  have b4 : ((w.alloc (vbox 3 (n : Int) A B C K)).alloc (vbox 3 (n : Int) A B C K)).cell? ⟨w.heap.size, 4, none⟩ = some (.int .i64 C) := by simp
  have b5 : ((w.alloc (vbox 3 (n : Int) A B C K)).alloc (vbox 3 (n : Int) A B C K)).cell? ⟨w.heap.size, 5, none⟩ = some (.float .f64 K) := by simp
  have bs : w.heap.size < ((w.alloc (vbox 3 (n : Int) A B C K)).alloc (vbox 3 (n : Int) A B C K)).heap.size := by simp; omega
  go_enter Try.func28, Try.ntmps28
  go_wp2_with fail
  refine (l1fits _ 3 (n : Int) A B C K la lb lc).mono ?_
  rintro e w' ⟨rfl, rfl⟩
  rw [hs]
  clear hs
  go_wp2_with fail
  have hG := grow_start ((w.alloc (vbox 3 (n : Int) A B C K)).alloc (vbox 3 (n : Int) A B C K)) (elem 3 C K xa xb xc)
  generalize hw1 : (w.alloc (vbox 3 (n : Int) A B C K)).alloc (vbox 3 (n : Int) A B C K) = w1 at b0 b1 b4 b5 bs hW hG ⊢
  clear hw1
  go_loopw [9, 10, 11, 12, 13, 14] (fun v i _ _ _ _ W => ∃ k : Nat, k ≤ n ∧ i = .int .i64 k ∧ Grow w1 k (elem 3 C K xa xb xc) v W) (fun _ i _ _ _ _ _ => n - (intOf i).toNat)
  case atStart => exact ⟨0, Nat.zero_le _, rfl, hG⟩
  case round =>
    obtain ⟨k, hk, rfl, hG2⟩ := hrel
    clear hG
    have hKW := hG2.kept
    have d1 := kept_cell hKW bs b1
    by_cases hlt : k < n
    · obtain ⟨zs, hown, hzl, hzlt, hzq, _⟩ := hG2
      have d0 := kept_cell hKW bs b0
      have d5 := kept_cell hKW bs b5
      have xca := kept_cell hKW (Nat.lt_of_lt_of_le gla hW.out.size) ((by rw [hW.out.cell (p := ⟨ga, oa + k, none⟩) gla (by omega)]; exact kca k (by omega)) : w1.cell? ⟨ga, oa + k, none⟩ = some (.float .f64 (xa.getD k 0)))
      have xcb := kept_cell hKW (Nat.lt_of_lt_of_le glb hW.out.size) ((by rw [hW.out.cell (p := ⟨gb, ob + k, none⟩) glb (by omega)]; exact kcb k (by omega)) : w1.cell? ⟨gb, ob + k, none⟩ = some (.float .f64 (xb.getD k 0)))
      have ya : Hid _ := getD_lt fa.lt k
      have yb : Hid _ := getD_lt fb'.lt k
      have HE : Hid (∀ u, fb u = fb (one1 3 (xa.getD k 0) (xb.getD k 0) 0) → fb u = fb (elem 3 C K xa xb xc k)) := fun u h => by rw [h]; simp [one1, elem]
      generalize xa.getD k 0 = ua at xca ya HE
      generalize xb.getD k 0 = ub at xcb yb HE
      have haa : (k : Int) < (la : Int) := by omega
      have hbb : (k : Int) < (lb : Int) := by omega
      go_wp2_with (first | (go_at_call 78; refine (l1each_r _ _ (by omega) (by omega)).mono ?_; rintro e w2 ⟨rfl, rfl⟩; simp only [show each1 3 = true from rfl]) | (go_at_call 79; refine (l1operands_r _ _ (by omega) (by omega)).mono ?_; rintro e w2 ⟨rfl, rfl⟩; simp only [show ops1 3 = 2 from rfl]))
      refine (l1one 3 _ _ _ _ ya.out yb.out (by omega) (by omega)).mono ?_
      rintro e w2 ⟨u, rfl, hu, hfu, hD⟩
      have hfu2 : Hid _ := HE.out u hfu
      have hown2 := own_drawn hown hD
      have hKW2 := hKW.trans (hD.kept 0 0)
      clear hfu
      go_wp2_with (first | (go_at_call 78; refine (l1each_r _ _ (by omega) (by omega)).mono ?_; rintro e w2 ⟨rfl, rfl⟩; simp only [show each1 3 = true from rfl]) | (at_builtin; refine wpList_append_own _ rfl _ _ 38 rfl w1.heap.size 23 i0 (.float .f64 0) 1 8 Try.underlying38 hi hz0 hz1 hz2 rfl (by decide) _ _ _ rfl (hown2.alloc _) ⟨w2.heap.size, 0, none⟩ 1 1 [.float .f64 u] rfl rfl ?c1 ?c2 ?c3 ?c4 ?c5 ?_))
      case c1 => exact cell_one_new _ _ _
      case c2 => intro u hu; simp at hu; subst hu; rfl
      case c3 => unfold maxLen; omega
      case c4 => omega
      case c5 => have := hKW2.size; simp; omega
      intro v' w9 hown9 hg9 _
      have R : Hid _ := Grow.step hown2 hzl hzlt hzq hKW2 hu hfu2.out hown9 hg9
      clear hown9 hg9 hown hzl hzlt hzq hKW
      go_wp2
      go_roundw
      case rel => exact ⟨k + 1, by omega, by go_num, R.out⟩
      case measure => simp [intOf]; omega
    · obtain rfl : k = n := by omega
      have R : Hid _ := hG2.done h1 hW.out
      clear hG2 hKW
      go_wp2
      go_ret
      exact R.out

set_option maxRecDepth 100000 in
set_option maxHeartbeats 800000 in
theorem specKernel_4 (w : World) (A B C : Int) (n K : Nat) (h1 : 1 ≤ n) (hn : n ≤ 1000) (_hK : K < 18446744073709551616) {l0 h0' l1 h1' l2 h2' : Nat} {a b c : Option Addr} {la lb lc ca cb cc : Nat} {xa xb xc : List Nat}
    (fa : FS w l0 h0' a la xa) (fb' : FS w l1 h1' b lb xb) (_fc : FS w l2 h2' c lc xc) (_hca : la ≤ ca) (hs : fitB 4 (n : Int) C la lb lc = true) :
    Calls Try.prog 28 #[vagg 4 (n : Int) A B C K, .slice a la ca, .slice b lb cb, .slice c lc cc] w fun e w' => KS n (elem 4 C K xa xb xc) w e w' := by
  have HS := hs
  obtain ⟨i0, hi, hz0, hz1, hz2⟩ := info_parts infoF
  have hfit : (la ≤ n ∧ n ≤ la) ∧ (lb ≤ n ∧ n ≤ lb) := by simp [fitB, shapeB, cnt, lenB] at HS; omega
  obtain ⟨⟨ea, ea2⟩, ⟨eb, eb2⟩⟩ := hfit
  clear HS
  rcases fa.at_ with hz | ⟨ga, oa, rfl, _, _, gla, kca⟩
  · omega
  rcases fb'.at_ with hz | ⟨gb, ob, rfl, _, _, glb, kcb⟩
  · omega
  have hW : Hid _ := (kept_alloc 0 0 w (vbox 4 (n : Int) A B C K)).trans (kept_alloc 0 0 _ (vbox 4 (n : Int) A B C K))
  have b0 : ((w.alloc (vbox 4 (n : Int) A B C K)).alloc (vbox 4 (n : Int) A B C K)).cell? ⟨w.heap.size, 0, none⟩ = some (.int .i64 4) := by simp
  have b1 : ((w.alloc (vbox 4 (n : Int) A B C K)).alloc (vbox 4 (n : Int) A B C K)).cell? ⟨w.heap.size, 1, none⟩ = some (.int .i64 (n : Int)) := by simp
  have b4 : ((w.alloc (vbox 4 (n : Int) A B C K)).alloc (vbox 4 (n : Int) A B C K)).cell? ⟨w.heap.size, 4, none⟩ = some (.int .i64 C) := by simp
  have b5 : ((w.alloc (vbox 4 (n : Int) A B C K)).alloc (vbox 4 (n : Int) A B C K)).cell? ⟨w.heap.size, 5, none⟩ = some (.float .f64 K) := by simp
  have bs : w.heap.size < ((w.alloc (vbox 4 (n : Int) A B C K)).alloc (vbox 4 (n : Int) A B C K)).heap.size := by simp; omega
  go_enter Try.func28, Try.ntmps28
  go_wp2_with fail
  refine (l1fits _ 4 (n : Int) A B C K la lb lc).mono ?_
  rintro e w' ⟨rfl, rfl⟩
  rw [hs]
  clear hs
  go_wp2_with fail
  have hG := grow_start ((w.alloc (vbox 4 (n : Int) A B C K)).alloc (vbox 4 (n : Int) A B C K)) (elem 4 C K xa xb xc)
  generalize hw1 : (w.alloc (vbox 4 (n : Int) A B C K)).alloc (vbox 4 (n : Int) A B C K) = w1 at b0 b1 b4 b5 bs hW hG ⊢
  clear hw1
  go_loopw [9, 10, 11, 12, 13, 14] (fun v i _ _ _ _ W => ∃ k : Nat, k ≤ n ∧ i = .int .i64 k ∧ Grow w1 k (elem 4 C K xa xb xc) v W) (fun _ i _ _ _ _ _ => n - (intOf i).toNat)
  case atStart => exact ⟨0, Nat.zero_le _, rfl, hG⟩
  case round =>
    obtain ⟨k, hk, rfl, hG2⟩ := hrel
    clear hG
    have hKW := hG2.kept
    have d1 := kept_cell hKW bs b1
    by_cases hlt : k < n
    · obtain ⟨zs, hown, hzl, hzlt, hzq, _⟩ := hG2
      have d0 := kept_cell hKW bs b0
      have d5 := kept_cell hKW bs b5
      have xca := kept_cell hKW (Nat.lt_of_lt_of_le gla hW.out.size) ((by rw [hW.out.cell (p := ⟨ga, oa + k, none⟩) gla (by omega)]; exact kca k (by omega)) : w1.cell? ⟨ga, oa + k, none⟩ = some (.float .f64 (xa.getD k 0)))
      have xcb := kept_cell hKW (Nat.lt_of_lt_of_le glb hW.out.size) ((by rw [hW.out.cell (p := ⟨gb, ob + k, none⟩) glb (by omega)]; exact kcb k (by omega)) : w1.cell? ⟨gb, ob + k, none⟩ = some (.float .f64 (xb.getD k 0)))
      have ya : Hid _ := getD_lt fa.lt k
      have yb : Hid _ := getD_lt fb'.lt k
      have HE : Hid (∀ u, fb u = fb (one1 4 (xa.getD k 0) (xb.getD k 0) 0) → fb u = fb (elem 4 C K xa xb xc k)) := fun u h => by rw [h]; simp [one1, elem]
      generalize xa.getD k 0 = ua at xca ya HE
      generalize xb.getD k 0 = ub at xcb yb HE
      have haa : (k : Int) < (la : Int) := by omega
      have hbb : (k : Int) < (lb : Int) := by omega
      go_wp2_with (first | (go_at_call 78; refine (l1each_r _ _ (by omega) (by omega)).mono ?_; rintro e w2 ⟨rfl, rfl⟩; simp only [show each1 4 = true from rfl]) | (go_at_call 79; refine (l1operands_r _ _ (by omega) (by omega)).mono ?_; rintro e w2 ⟨rfl, rfl⟩; simp only [show ops1 4 = 2 from rfl]))
      refine (l1one 4 _ _ _ _ ya.out yb.out (by omega) (by omega)).mono ?_
      rintro e w2 ⟨u, rfl, hu, hfu, hD⟩
      have hfu2 : Hid _ := HE.out u hfu
      have hown2 := own_drawn hown hD
      have hKW2 := hKW.trans (hD.kept 0 0)
      clear hfu
      go_wp2_with (first | (go_at_call 78; refine (l1each_r _ _ (by omega) (by omega)).mono ?_; rintro e w2 ⟨rfl, rfl⟩; simp only [show each1 4 = true from rfl]) | (at_builtin; refine wpList_append_own _ rfl _ _ 38 rfl w1.heap.size 23 i0 (.float .f64 0) 1 8 Try.underlying38 hi hz0 hz1 hz2 rfl (by decide) _ _ _ rfl (hown2.alloc _) ⟨w2.heap.size, 0, none⟩ 1 1 [.float .f64 u] rfl rfl ?c1 ?c2 ?c3 ?c4 ?c5 ?_))
      case c1 => exact cell_one_new _ _ _
      case c2 => intro u hu; simp at hu; subst hu; rfl
      case c3 => unfold maxLen; omega
      case c4 => omega
      case c5 => have := hKW2.size; simp; omega
      intro v' w9 hown9 hg9 _
      have R : Hid _ := Grow.step hown2 hzl hzlt hzq hKW2 hu hfu2.out hown9 hg9
      clear hown9 hg9 hown hzl hzlt hzq hKW
      go_wp2
      go_roundw
      case rel => exact ⟨k + 1, by omega, by go_num, R.out⟩
      case measure => simp [intOf]; omega
    · obtain rfl : k = n := by omega
      have R : Hid _ := hG2.done h1 hW.out
      clear hG2 hKW
      go_wp2
      go_ret
      exact R.out

set_option maxRecDepth 100000 in
set_option maxHeartbeats 800000 in
theorem specKernel_5 (w : World) (A B C : Int) (n K : Nat) (h1 : 1 ≤ n) (hn : n ≤ 1000) (_hK : K < 18446744073709551616) {l0 h0' l1 h1' l2 h2' : Nat} {a b c : Option Addr} {la lb lc ca cb cc : Nat} {xa xb xc : List Nat}
    (fa : FS w l0 h0' a la xa) (fb' : FS w l1 h1' b lb xb) (_fc : FS w l2 h2' c lc xc) (_hca : la ≤ ca) (hs : fitB 5 (n : Int) C la lb lc = true) :
    Calls Try.prog 28 #[vagg 5 (n : Int) A B C K, .slice a la ca, .slice b lb cb, .slice c lc cc] w fun e w' => KS n (elem 5 C K xa xb xc) w e w' := by
  have HS := hs
  obtain ⟨i0, hi, hz0, hz1, hz2⟩ := info_parts infoF
  have hfit : (la ≤ n ∧ n ≤ la) ∧ (lb ≤ n ∧ n ≤ lb) := by simp [fitB, shapeB, cnt, lenB] at HS; omega
  obtain ⟨⟨ea, ea2⟩, ⟨eb, eb2⟩⟩ := hfit
  clear HS
  rcases fa.at_ with hz | ⟨ga, oa, rfl, _, _, gla, kca⟩
  · omega
  rcases fb'.at_ with hz | ⟨gb, ob, rfl, _, _, glb, kcb⟩
  · omega
  have hW : Hid _ := (kept_alloc 0 0 w (vbox 5 (n : Int) A B C K)).trans (kept_alloc 0 0 _ (vbox 5 (n : Int) A B C K))
  have b0 : ((w.alloc (vbox 5 (n : Int) A B C K)).alloc (vbox 5 (n : Int) A B C K)).cell? ⟨w.heap.size, 0, none⟩ = some (.int .i64 5) := by simp
  have b1 : ((w.alloc (vbox 5 (n : Int) A B C K)).alloc (vbox 5 (n : Int) A B C K)).cell? ⟨w.heap.size, 1, none⟩ = some (.int .i64 (n : Int)) := by simp
  have b4 : ((w.alloc (vbox 5 (n : Int) A B C K)).alloc (vbox 5 (n : Int) A B C K)).cell? ⟨w.heap.size, 4, none⟩ = some (.int .i64 C) := by simp
  have b5 : ((w.alloc (vbox 5 (n : Int) A B C K)).alloc (vbox 5 (n : Int) A B C K)).cell? ⟨w.heap.size, 5, none⟩ = some (.float .f64 K) := by simp
  have bs : w.heap.size < ((w.alloc (vbox 5 (n : Int) A B C K)).alloc (vbox 5 (n : Int) A B C K)).heap.size := by simp; omega
  go_enter Try.func28, Try.ntmps28
  go_wp2_with fail
  refine (l1fits _ 5 (n : Int) A B C K la lb lc).mono ?_
  rintro e w' ⟨rfl, rfl⟩
  rw [hs]
  clear hs
  go_wp2_with fail
  have hG := grow_start ((w.alloc (vbox 5 (n : Int) A B C K)).alloc (vbox 5 (n : Int) A B C K)) (elem 5 C K xa xb xc)
  generalize hw1 : (w.alloc (vbox 5 (n : Int) A B C K)).alloc (vbox 5 (n : Int) A B C K) = w1 at b0 b1 b4 b5 bs hW hG ⊢
  clear hw1
  go_loopw [9, 10, 11, 12, 13, 14] (fun v i _ _ _ _ W => ∃ k : Nat, k ≤ n ∧ i = .int .i64 k ∧ Grow w1 k (elem 5 C K xa xb xc) v W) (fun _ i _ _ _ _ _ => n - (intOf i).toNat)
  case atStart => exact ⟨0, Nat.zero_le _, rfl, hG⟩
  case round =>
    obtain ⟨k, hk, rfl, hG2⟩ := hrel
    clear hG
    have hKW := hG2.kept
    have d1 := kept_cell hKW bs b1
    by_cases hlt : k < n
    · obtain ⟨zs, hown, hzl, hzlt, hzq, _⟩ := hG2
      have d0 := kept_cell hKW bs b0
      have d5 := kept_cell hKW bs b5
      have xca := kept_cell hKW (Nat.lt_of_lt_of_le gla hW.out.size) ((by rw [hW.out.cell (p := ⟨ga, oa + k, none⟩) gla (by omega)]; exact kca k (by omega)) : w1.cell? ⟨ga, oa + k, none⟩ = some (.float .f64 (xa.getD k 0)))
      have xcb := kept_cell hKW (Nat.lt_of_lt_of_le glb hW.out.size) ((by rw [hW.out.cell (p := ⟨gb, ob + k, none⟩) glb (by omega)]; exact kcb k (by omega)) : w1.cell? ⟨gb, ob + k, none⟩ = some (.float .f64 (xb.getD k 0)))
      have ya : Hid _ := getD_lt fa.lt k
      have yb : Hid _ := getD_lt fb'.lt k
      have HE : Hid (∀ u, fb u = fb (one1 5 (xa.getD k 0) (xb.getD k 0) 0) → fb u = fb (elem 5 C K xa xb xc k)) := fun u h => by rw [h]; simp [one1, elem]
      generalize xa.getD k 0 = ua at xca ya HE
      generalize xb.getD k 0 = ub at xcb yb HE
      have haa : (k : Int) < (la : Int) := by omega
      have hbb : (k : Int) < (lb : Int) := by omega
      go_wp2_with (first | (go_at_call 78; refine (l1each_r _ _ (by omega) (by omega)).mono ?_; rintro e w2 ⟨rfl, rfl⟩; simp only [show each1 5 = true from rfl]) | (go_at_call 79; refine (l1operands_r _ _ (by omega) (by omega)).mono ?_; rintro e w2 ⟨rfl, rfl⟩; simp only [show ops1 5 = 2 from rfl]))
      refine (l1one 5 _ _ _ _ ya.out yb.out (by omega) (by omega)).mono ?_
      rintro e w2 ⟨u, rfl, hu, hfu, hD⟩
      have hfu2 : Hid _ := HE.out u hfu
      have hown2 := own_drawn hown hD
      have hKW2 := hKW.trans (hD.kept 0 0)
      clear hfu
      go_wp2_with (first | (go_at_call 78; refine (l1each_r _ _ (by omega) (by omega)).mono ?_; rintro e w2 ⟨rfl, rfl⟩; simp only [show each1 5 = true from rfl]) | (at_builtin; refine wpList_append_own _ rfl _ _ 38 rfl w1.heap.size 23 i0 (.float .f64 0) 1 8 Try.underlying38 hi hz0 hz1 hz2 rfl (by decide) _ _ _ rfl (hown2.alloc _) ⟨w2.heap.size, 0, none⟩ 1 1 [.float .f64 u] rfl rfl ?c1 ?c2 ?c3 ?c4 ?c5 ?_))
      case c1 => exact cell_one_new _ _ _
      case c2 => intro u hu; simp at hu; subst hu; rfl
      case c3 => unfold maxLen; omega
      case c4 => omega
      case c5 => have := hKW2.size; simp; omega
      intro v' w9 hown9 hg9 _
      have R : Hid _ := Grow.step hown2 hzl hzlt hzq hKW2 hu hfu2.out hown9 hg9
      clear hown9 hg9 hown hzl hzlt hzq hKW
      go_wp2
      go_roundw
      case rel => exact ⟨k + 1, by omega, by go_num, R.out⟩
      case measure => simp [intOf]; omega
    · obtain rfl : k = n := by omega
      have R : Hid _ := hG2.done h1 hW.out
      clear hG2 hKW
      go_wp2
      go_ret
      exact R.out

set_option maxRecDepth 100000 in
set_option maxHeartbeats 800000 in
theorem specKernel_6 (w : World) (A B C : Int) (n K : Nat) (h1 : 1 ≤ n) (hn : n ≤ 1000) (_hK : K < 18446744073709551616) {l0 h0' l1 h1' l2 h2' : Nat} {a b c : Option Addr} {la lb lc ca cb cc : Nat} {xa xb xc : List Nat}
    (fa : FS w l0 h0' a la xa) (_fb : FS w l1 h1' b lb xb) (_fc : FS w l2 h2' c lc xc) (_hca : la ≤ ca) (hs : fitB 6 (n : Int) C la lb lc = true) :
    Calls Try.prog 28 #[vagg 6 (n : Int) A B C K, .slice a la ca, .slice b lb cb, .slice c lc cc] w fun e w' => KS n (elem 6 C K xa xb xc) w e w' := by
  have HS := hs
  obtain ⟨i0, hi, hz0, hz1, hz2⟩ := info_parts infoF
  have hfit : (la ≤ n ∧ n ≤ la) := by simp [fitB, shapeB, cnt, lenB] at HS; omega
  obtain ⟨ea, ea2⟩ := hfit
  clear HS
  rcases fa.at_ with hz | ⟨ga, oa, rfl, _, _, gla, kca⟩
  · omega
  have hW : Hid _ := (kept_alloc 0 0 w (vbox 6 (n : Int) A B C K)).trans (kept_alloc 0 0 _ (vbox 6 (n : Int) A B C K))
  have b0 : ((w.alloc (vbox 6 (n : Int) A B C K)).alloc (vbox 6 (n : Int) A B C K)).cell? ⟨w.heap.size, 0, none⟩ = some (.int .i64 6) := by simp
  have b1 : ((w.alloc (vbox 6 (n : Int) A B C K)).alloc (vbox 6 (n : Int) A B C K)).cell? ⟨w.heap.size, 1, none⟩ = some (.int .i64 (n : Int)) := by simp
  have b4 : ((w.alloc (vbox 6 (n : Int) A B C K)).alloc (vbox 6 (n : Int) A B C K)).cell? ⟨w.heap.size, 4, none⟩ = some (.int .i64 C) := by simp
  have b5 : ((w.alloc (vbox 6 (n : Int) A B C K)).alloc (vbox 6 (n : Int) A B C K)).cell? ⟨w.heap.size, 5, none⟩ = some (.float .f64 K) := by simp
  have bs : w.heap.size < ((w.alloc (vbox 6 (n : Int) A B C K)).alloc (vbox 6 (n : Int) A B C K)).heap.size := by simp; omega
  go_enter Try.func28, Try.ntmps28
  go_wp2_with fail
  refine (l1fits _ 6 (n : Int) A B C K la lb lc).mono ?_
  rintro e w' ⟨rfl, rfl⟩
  rw [hs]
  clear hs
  go_wp2_with fail
  have hG := grow_start ((w.alloc (vbox 6 (n : Int) A B C K)).alloc (vbox 6 (n : Int) A B C K)) (elem 6 C K xa xb xc)
  generalize hw1 : (w.alloc (vbox 6 (n : Int) A B C K)).alloc (vbox 6 (n : Int) A B C K) = w1 at b0 b1 b4 b5 bs hW hG ⊢
  clear hw1
  go_loopw [9, 10, 11, 12, 13, 14] (fun v i _ _ _ _ W => ∃ k : Nat, k ≤ n ∧ i = .int .i64 k ∧ Grow w1 k (elem 6 C K xa xb xc) v W) (fun _ i _ _ _ _ _ => n - (intOf i).toNat)
  case atStart => exact ⟨0, Nat.zero_le _, rfl, hG⟩
  case round =>
    obtain ⟨k, hk, rfl, hG2⟩ := hrel
    clear hG
    have hKW := hG2.kept
    have d1 := kept_cell hKW bs b1
    by_cases hlt : k < n
    · obtain ⟨zs, hown, hzl, hzlt, hzq, _⟩ := hG2
      have d0 := kept_cell hKW bs b0
      have d5 := kept_cell hKW bs b5
      have xca := kept_cell hKW (Nat.lt_of_lt_of_le gla hW.out.size) ((by rw [hW.out.cell (p := ⟨ga, oa + k, none⟩) gla (by omega)]; exact kca k (by omega)) : w1.cell? ⟨ga, oa + k, none⟩ = some (.float .f64 (xa.getD k 0)))
      have ya : Hid _ := getD_lt fa.lt k
      have HE : Hid (∀ u, fb u = fb (one1 6 (xa.getD k 0) 0 0) → fb u = fb (elem 6 C K xa xb xc k)) := fun u h => by rw [h]; simp [one1, elem]
      generalize xa.getD k 0 = ua at xca ya HE
      have haa : (k : Int) < (la : Int) := by omega
      go_wp2_with (first | (go_at_call 78; refine (l1each_r _ _ (by omega) (by omega)).mono ?_; rintro e w2 ⟨rfl, rfl⟩; simp only [show each1 6 = true from rfl]) | (go_at_call 79; refine (l1operands_r _ _ (by omega) (by omega)).mono ?_; rintro e w2 ⟨rfl, rfl⟩; simp only [show ops1 6 = 1 from rfl]))
      refine (l1one 6 _ _ _ _ ya.out (by omega) (by omega) (by omega)).mono ?_
      rintro e w2 ⟨u, rfl, hu, hfu, hD⟩
      have hfu2 : Hid _ := HE.out u hfu
      have hown2 := own_drawn hown hD
      have hKW2 := hKW.trans (hD.kept 0 0)
      clear hfu
      go_wp2_with (first | (go_at_call 78; refine (l1each_r _ _ (by omega) (by omega)).mono ?_; rintro e w2 ⟨rfl, rfl⟩; simp only [show each1 6 = true from rfl]) | (at_builtin; refine wpList_append_own _ rfl _ _ 38 rfl w1.heap.size 23 i0 (.float .f64 0) 1 8 Try.underlying38 hi hz0 hz1 hz2 rfl (by decide) _ _ _ rfl (hown2.alloc _) ⟨w2.heap.size, 0, none⟩ 1 1 [.float .f64 u] rfl rfl ?c1 ?c2 ?c3 ?c4 ?c5 ?_))
      case c1 => exact cell_one_new _ _ _
      case c2 => intro u hu; simp at hu; subst hu; rfl
      case c3 => unfold maxLen; omega
      case c4 => omega
      case c5 => have := hKW2.size; simp; omega
      intro v' w9 hown9 hg9 _
      have R : Hid _ := Grow.step hown2 hzl hzlt hzq hKW2 hu hfu2.out hown9 hg9
      clear hown9 hg9 hown hzl hzlt hzq hKW
      go_wp2
      go_roundw
      case rel => exact ⟨k + 1, by omega, by go_num, R.out⟩
      case measure => simp [intOf]; omega
    · obtain rfl : k = n := by omega
      have R : Hid _ := hG2.done h1 hW.out
      clear hG2 hKW
      go_wp2
      go_ret
      exact R.out

set_option maxRecDepth 100000 in
set_option maxHeartbeats 800000 in
theorem specKernel_7 (w : World) (A B C : Int) (n K : Nat) (h1 : 1 ≤ n) (hn : n ≤ 1000) (_hK : K < 18446744073709551616) {l0 h0' l1 h1' l2 h2' : Nat} {a b c : Option Addr} {la lb lc ca cb cc : Nat} {xa xb xc : List Nat}
    (fa : FS w l0 h0' a la xa) (fb' : FS w l1 h1' b lb xb) (_fc : FS w l2 h2' c lc xc) (_hca : la ≤ ca) (hs : fitB 7 (n : Int) C la lb lc = true) :
    Calls Try.prog 28 #[vagg 7 (n : Int) A B C K, .slice a la ca, .slice b lb cb, .slice c lc cc] w fun e w' => KS n (elem 7 C K xa xb xc) w e w' := by
  have HS := hs
  obtain ⟨i0, hi, hz0, hz1, hz2⟩ := info_parts infoF
  have hfit : (la ≤ n ∧ n ≤ la) ∧ (lb ≤ n ∧ n ≤ lb) := by simp [fitB, shapeB, cnt, lenB] at HS; omega
  obtain ⟨⟨ea, ea2⟩, ⟨eb, eb2⟩⟩ := hfit
  clear HS
  rcases fa.at_ with hz | ⟨ga, oa, rfl, _, _, gla, kca⟩
  · omega
  rcases fb'.at_ with hz | ⟨gb, ob, rfl, _, _, glb, kcb⟩
  · omega
  have hW : Hid _ := (kept_alloc 0 0 w (vbox 7 (n : Int) A B C K)).trans (kept_alloc 0 0 _ (vbox 7 (n : Int) A B C K))
  have b0 : ((w.alloc (vbox 7 (n : Int) A B C K)).alloc (vbox 7 (n : Int) A B C K)).cell? ⟨w.heap.size, 0, none⟩ = some (.int .i64 7) := by simp
  have b1 : ((w.alloc (vbox 7 (n : Int) A B C K)).alloc (vbox 7 (n : Int) A B C K)).cell? ⟨w.heap.size, 1, none⟩ = some (.int .i64 (n : Int)) := by simp
  have b4 : ((w.alloc (vbox 7 (n : Int) A B C K)).alloc (vbox 7 (n : Int) A B C K)).cell? ⟨w.heap.size, 4, none⟩ = some (.int .i64 C) := by simp
  have b5 : ((w.alloc (vbox 7 (n : Int) A B C K)).alloc (vbox 7 (n : Int) A B C K)).cell? ⟨w.heap.size, 5, none⟩ = some (.float .f64 K) := by simp
  have bs : w.heap.size < ((w.alloc (vbox 7 (n : Int) A B C K)).alloc (vbox 7 (n : Int) A B C K)).heap.size := by simp; omega
  go_enter Try.func28, Try.ntmps28
  go_wp2_with fail
  refine (l1fits _ 7 (n : Int) A B C K la lb lc).mono ?_
  rintro e w' ⟨rfl, rfl⟩
  rw [hs]
  clear hs
  go_wp2_with fail
  have hG := grow_start ((w.alloc (vbox 7 (n : Int) A B C K)).alloc (vbox 7 (n : Int) A B C K)) (elem 7 C K xa xb xc)
  generalize hw1 : (w.alloc (vbox 7 (n : Int) A B C K)).alloc (vbox 7 (n : Int) A B C K) = w1 at b0 b1 b4 b5 bs hW hG ⊢
  clear hw1
  go_loopw [9, 10, 11, 12, 13, 14] (fun v i _ _ _ _ W => ∃ k : Nat, k ≤ n ∧ i = .int .i64 k ∧ Grow w1 k (elem 7 C K xa xb xc) v W) (fun _ i _ _ _ _ _ => n - (intOf i).toNat)
  case atStart => exact ⟨0, Nat.zero_le _, rfl, hG⟩
  case round =>
    obtain ⟨k, hk, rfl, hG2⟩ := hrel
    clear hG
    have hKW := hG2.kept
    have d1 := kept_cell hKW bs b1
    by_cases hlt : k < n
    · obtain ⟨zs, hown, hzl, hzlt, hzq, _⟩ := hG2
      have d0 := kept_cell hKW bs b0
      have d5 := kept_cell hKW bs b5
      have xca := kept_cell hKW (Nat.lt_of_lt_of_le gla hW.out.size) ((by rw [hW.out.cell (p := ⟨ga, oa + k, none⟩) gla (by omega)]; exact kca k (by omega)) : w1.cell? ⟨ga, oa + k, none⟩ = some (.float .f64 (xa.getD k 0)))
      have xcb := kept_cell hKW (Nat.lt_of_lt_of_le glb hW.out.size) ((by rw [hW.out.cell (p := ⟨gb, ob + k, none⟩) glb (by omega)]; exact kcb k (by omega)) : w1.cell? ⟨gb, ob + k, none⟩ = some (.float .f64 (xb.getD k 0)))
      have ya : Hid _ := getD_lt fa.lt k
      have yb : Hid _ := getD_lt fb'.lt k
      have HE : Hid (∀ u, fb u = fb (one1 7 (xa.getD k 0) (xb.getD k 0) 0) → fb u = fb (elem 7 C K xa xb xc k)) := fun u h => by rw [h]; simp [one1, elem]
      generalize xa.getD k 0 = ua at xca ya HE
      generalize xb.getD k 0 = ub at xcb yb HE
      have haa : (k : Int) < (la : Int) := by omega
      have hbb : (k : Int) < (lb : Int) := by omega
      go_wp2_with (first | (go_at_call 78; refine (l1each_r _ _ (by omega) (by omega)).mono ?_; rintro e w2 ⟨rfl, rfl⟩; simp only [show each1 7 = true from rfl]) | (go_at_call 79; refine (l1operands_r _ _ (by omega) (by omega)).mono ?_; rintro e w2 ⟨rfl, rfl⟩; simp only [show ops1 7 = 2 from rfl]))
      refine (l1one 7 _ _ _ _ ya.out yb.out (by omega) (by omega)).mono ?_
      rintro e w2 ⟨u, rfl, hu, hfu, hD⟩
      have hfu2 : Hid _ := HE.out u hfu
      have hown2 := own_drawn hown hD
      have hKW2 := hKW.trans (hD.kept 0 0)
      clear hfu
      go_wp2_with (first | (go_at_call 78; refine (l1each_r _ _ (by omega) (by omega)).mono ?_; rintro e w2 ⟨rfl, rfl⟩; simp only [show each1 7 = true from rfl]) | (at_builtin; refine wpList_append_own _ rfl _ _ 38 rfl w1.heap.size 23 i0 (.float .f64 0) 1 8 Try.underlying38 hi hz0 hz1 hz2 rfl (by decide) _ _ _ rfl (hown2.alloc _) ⟨w2.heap.size, 0, none⟩ 1 1 [.float .f64 u] rfl rfl ?c1 ?c2 ?c3 ?c4 ?c5 ?_))
      case c1 => exact cell_one_new _ _ _
      case c2 => intro u hu; simp at hu; subst hu; rfl
      case c3 => unfold maxLen; omega
      case c4 => omega
      case c5 => have := hKW2.size; simp; omega
      intro v' w9 hown9 hg9 _
      have R : Hid _ := Grow.step hown2 hzl hzlt hzq hKW2 hu hfu2.out hown9 hg9
      clear hown9 hg9 hown hzl hzlt hzq hKW
      go_wp2
      go_roundw
      case rel => exact ⟨k + 1, by omega, by go_num, R.out⟩
      case measure => simp [intOf]; omega
    · obtain rfl : k = n := by omega
      have R : Hid _ := hG2.done h1 hW.out
      clear hG2 hKW
      go_wp2
      go_ret
      exact R.out

set_option maxRecDepth 100000 in
set_option maxHeartbeats 800000 in
theorem specKernel_8 (w : World) (A B C : Int) (n K : Nat) (h1 : 1 ≤ n) (hn : n ≤ 1000) (_hK : K < 18446744073709551616) {l0 h0' l1 h1' l2 h2' : Nat} {a b c : Option Addr} {la lb lc ca cb cc : Nat} {xa xb xc : List Nat}
    (fa : FS w l0 h0' a la xa) (fb' : FS w l1 h1' b lb xb) (fc : FS w l2 h2' c lc xc) (_hca : la ≤ ca) (hs : fitB 8 (n : Int) C la lb lc = true) :
    Calls Try.prog 28 #[vagg 8 (n : Int) A B C K, .slice a la ca, .slice b lb cb, .slice c lc cc] w fun e w' => KS n (elem 8 C K xa xb xc) w e w' := by
  have HS := hs
  obtain ⟨i0, hi, hz0, hz1, hz2⟩ := info_parts infoF
  have hfit : (la ≤ n ∧ n ≤ la) ∧ (lb ≤ n ∧ n ≤ lb) ∧ (lc ≤ n ∧ n ≤ lc) := by simp [fitB, shapeB, cnt, lenB] at HS; omega
  obtain ⟨⟨ea, ea2⟩, ⟨eb, eb2⟩, ⟨ec, ec2⟩⟩ := hfit
  clear HS
  rcases fa.at_ with hz | ⟨ga, oa, rfl, _, _, gla, kca⟩
  · omega
  rcases fb'.at_ with hz | ⟨gb, ob, rfl, _, _, glb, kcb⟩
  · omega
  rcases fc.at_ with hz | ⟨gc, oc, rfl, _, _, glc, kcc⟩
  · omega
  have hW : Hid _ := (kept_alloc 0 0 w (vbox 8 (n : Int) A B C K)).trans (kept_alloc 0 0 _ (vbox 8 (n : Int) A B C K))
  have b0 : ((w.alloc (vbox 8 (n : Int) A B C K)).alloc (vbox 8 (n : Int) A B C K)).cell? ⟨w.heap.size, 0, none⟩ = some (.int .i64 8) := by simp
  have b1 : ((w.alloc (vbox 8 (n : Int) A B C K)).alloc (vbox 8 (n : Int) A B C K)).cell? ⟨w.heap.size, 1, none⟩ = some (.int .i64 (n : Int)) := by simp
  have b4 : ((w.alloc (vbox 8 (n : Int) A B C K)).alloc (vbox 8 (n : Int) A B C K)).cell? ⟨w.heap.size, 4, none⟩ = some (.int .i64 C) := by simp
  have b5 : ((w.alloc (vbox 8 (n : Int) A B C K)).alloc (vbox 8 (n : Int) A B C K)).cell? ⟨w.heap.size, 5, none⟩ = some (.float .f64 K) := by simp
  have bs : w.heap.size < ((w.alloc (vbox 8 (n : Int) A B C K)).alloc (vbox 8 (n : Int) A B C K)).heap.size := by simp; omega
  go_enter Try.func28, Try.ntmps28
  go_wp2_with fail
  refine (l1fits _ 8 (n : Int) A B C K la lb lc).mono ?_
  rintro e w' ⟨rfl, rfl⟩
  rw [hs]
  clear hs
  go_wp2_with fail
  have hG := grow_start ((w.alloc (vbox 8 (n : Int) A B C K)).alloc (vbox 8 (n : Int) A B C K)) (elem 8 C K xa xb xc)
  generalize hw1 : (w.alloc (vbox 8 (n : Int) A B C K)).alloc (vbox 8 (n : Int) A B C K) = w1 at b0 b1 b4 b5 bs hW hG ⊢
  clear hw1
  go_loopw [9, 10, 11, 12, 13, 14] (fun v i _ _ _ _ W => ∃ k : Nat, k ≤ n ∧ i = .int .i64 k ∧ Grow w1 k (elem 8 C K xa xb xc) v W) (fun _ i _ _ _ _ _ => n - (intOf i).toNat)
  case atStart => exact ⟨0, Nat.zero_le _, rfl, hG⟩
  case round =>
    obtain ⟨k, hk, rfl, hG2⟩ := hrel
    clear hG
    have hKW := hG2.kept
    have d1 := kept_cell hKW bs b1
    by_cases hlt : k < n
    · obtain ⟨zs, hown, hzl, hzlt, hzq, _⟩ := hG2
      have d0 := kept_cell hKW bs b0
      have d5 := kept_cell hKW bs b5
      have xca := kept_cell hKW (Nat.lt_of_lt_of_le gla hW.out.size) ((by rw [hW.out.cell (p := ⟨ga, oa + k, none⟩) gla (by omega)]; exact kca k (by omega)) : w1.cell? ⟨ga, oa + k, none⟩ = some (.float .f64 (xa.getD k 0)))
      have xcb := kept_cell hKW (Nat.lt_of_lt_of_le glb hW.out.size) ((by rw [hW.out.cell (p := ⟨gb, ob + k, none⟩) glb (by omega)]; exact kcb k (by omega)) : w1.cell? ⟨gb, ob + k, none⟩ = some (.float .f64 (xb.getD k 0)))
      have xcc := kept_cell hKW (Nat.lt_of_lt_of_le glc hW.out.size) ((by rw [hW.out.cell (p := ⟨gc, oc + k, none⟩) glc (by omega)]; exact kcc k (by omega)) : w1.cell? ⟨gc, oc + k, none⟩ = some (.float .f64 (xc.getD k 0)))
      have ya : Hid _ := getD_lt fa.lt k
      have yb : Hid _ := getD_lt fb'.lt k
      have yc : Hid _ := getD_lt fc.lt k
      have HE : Hid (∀ u, fb u = fb (one1 8 (xa.getD k 0) (xb.getD k 0) (xc.getD k 0)) → fb u = fb (elem 8 C K xa xb xc k)) := fun u h => by rw [h]; simp [one1, elem]
      generalize xa.getD k 0 = ua at xca ya HE
      generalize xb.getD k 0 = ub at xcb yb HE
      generalize xc.getD k 0 = uc at xcc yc HE
      have haa : (k : Int) < (la : Int) := by omega
      have hbb : (k : Int) < (lb : Int) := by omega
      have hcc : (k : Int) < (lc : Int) := by omega
      go_wp2_with (first | (go_at_call 78; refine (l1each_r _ _ (by omega) (by omega)).mono ?_; rintro e w2 ⟨rfl, rfl⟩; simp only [show each1 8 = true from rfl]) | (go_at_call 79; refine (l1operands_r _ _ (by omega) (by omega)).mono ?_; rintro e w2 ⟨rfl, rfl⟩; simp only [show ops1 8 = 3 from rfl]))
      refine (l1one 8 _ _ _ _ ya.out yb.out yc.out (by omega)).mono ?_
      rintro e w2 ⟨u, rfl, hu, hfu, hD⟩
      have hfu2 : Hid _ := HE.out u hfu
      have hown2 := own_drawn hown hD
      have hKW2 := hKW.trans (hD.kept 0 0)
      clear hfu
      go_wp2_with (first | (go_at_call 78; refine (l1each_r _ _ (by omega) (by omega)).mono ?_; rintro e w2 ⟨rfl, rfl⟩; simp only [show each1 8 = true from rfl]) | (at_builtin; refine wpList_append_own _ rfl _ _ 38 rfl w1.heap.size 23 i0 (.float .f64 0) 1 8 Try.underlying38 hi hz0 hz1 hz2 rfl (by decide) _ _ _ rfl (hown2.alloc _) ⟨w2.heap.size, 0, none⟩ 1 1 [.float .f64 u] rfl rfl ?c1 ?c2 ?c3 ?c4 ?c5 ?_))
      case c1 => exact cell_one_new _ _ _
      case c2 => intro u hu; simp at hu; subst hu; rfl
      case c3 => unfold maxLen; omega
      case c4 => omega
      case c5 => have := hKW2.size; simp; omega
      intro v' w9 hown9 hg9 _
      have R : Hid _ := Grow.step hown2 hzl hzlt hzq hKW2 hu hfu2.out hown9 hg9
      clear hown9 hg9 hown hzl hzlt hzq hKW
      go_wp2
      go_roundw
      case rel => exact ⟨k + 1, by omega, by go_num, R.out⟩
      case measure => simp [intOf]; omega
    · obtain rfl : k = n := by omega
      have R : Hid _ := hG2.done h1 hW.out
      clear hG2 hKW
      go_wp2
      go_ret
      exact R.out

set_option maxRecDepth 100000 in
set_option maxHeartbeats 800000 in
theorem specKernel_9 (w : World) (A B C : Int) (n K : Nat) (h1 : 1 ≤ n) (hn : n ≤ 1000) (_hK : K < 18446744073709551616) {l0 h0' l1 h1' l2 h2' : Nat} {a b c : Option Addr} {la lb lc ca cb cc : Nat} {xa xb xc : List Nat}
    (fa : FS w l0 h0' a la xa) (_fb : FS w l1 h1' b lb xb) (_fc : FS w l2 h2' c lc xc) (hca : la ≤ ca) (hs : fitB 9 (n : Int) C la lb lc = true) :
    Calls Try.prog 28 #[vagg 9 (n : Int) A B C K, .slice a la ca, .slice b lb cb, .slice c lc cc] w fun e w' => KS n (elem 9 C K xa xb xc) w e w' := by
  have HS := hs
  obtain ⟨i0, hi, hz0, hz1, hz2⟩ := info_parts infoF
  have hfit : n ≤ 1 ∧ 1 ≤ la ∧ la ≤ 1000 := by simp [fitB, shapeB, cnt, lenB] at HS; omega
  clear HS
  have hW : Hid _ := (kept_alloc 0 0 w (vbox 9 (n : Int) A B C K)).trans (kept_alloc 0 0 _ (vbox 9 (n : Int) A B C K))
  have b0 : ((w.alloc (vbox 9 (n : Int) A B C K)).alloc (vbox 9 (n : Int) A B C K)).cell? ⟨w.heap.size, 0, none⟩ = some (.int .i64 9) := by simp
  have b1 : ((w.alloc (vbox 9 (n : Int) A B C K)).alloc (vbox 9 (n : Int) A B C K)).cell? ⟨w.heap.size, 1, none⟩ = some (.int .i64 (n : Int)) := by simp
  have b4 : ((w.alloc (vbox 9 (n : Int) A B C K)).alloc (vbox 9 (n : Int) A B C K)).cell? ⟨w.heap.size, 4, none⟩ = some (.int .i64 C) := by simp
  have b5 : ((w.alloc (vbox 9 (n : Int) A B C K)).alloc (vbox 9 (n : Int) A B C K)).cell? ⟨w.heap.size, 5, none⟩ = some (.float .f64 K) := by simp
  have bs : w.heap.size < ((w.alloc (vbox 9 (n : Int) A B C K)).alloc (vbox 9 (n : Int) A B C K)).heap.size := by simp; omega
  go_enter Try.func28, Try.ntmps28
  go_wp2_with fail
  refine (l1fits _ 9 (n : Int) A B C K la lb lc).mono ?_
  rintro e w' ⟨rfl, rfl⟩
  rw [hs]
  clear hs
  go_wp2_with fail
  have hG := grow_start ((w.alloc (vbox 9 (n : Int) A B C K)).alloc (vbox 9 (n : Int) A B C K)) (elem 9 C K xa xb xc)
  generalize hw1 : (w.alloc (vbox 9 (n : Int) A B C K)).alloc (vbox 9 (n : Int) A B C K) = w1 at b0 b1 b4 b5 bs hW hG ⊢
  clear hw1
  go_loopw [9, 10, 11, 12, 13, 14] (fun v i _ _ _ _ W => ∃ k : Nat, k ≤ n ∧ i = .int .i64 k ∧ Grow w1 k (elem 9 C K xa xb xc) v W) (fun _ i _ _ _ _ _ => n - (intOf i).toNat)
  case atStart => exact ⟨0, Nat.zero_le _, rfl, hG⟩
  case round =>
    obtain ⟨k, hk, rfl, hG2⟩ := hrel
    clear hG
    have hKW := hG2.kept
    have d1 := kept_cell hKW bs b1
    by_cases hlt : k < n
    · obtain ⟨zs, hown, hzl, hzlt, hzq, _⟩ := hG2
      have d0 := kept_cell hKW bs b0
      have d5 := kept_cell hKW bs b5
      have HE : Hid (∀ u, fb u = fb (csum xa) → fb u = fb (elem 9 C K xa xb xc k)) := fun u h => by rw [h]; simp [elem]
      have ga := fa.keep (hW.out.trans hKW) (.inr (.inr (Nat.le_refl _)))
      have GA : Hid _ := ga
      clear ga
      go_wp2_with (go_at_call 78; refine (l1each_r _ _ (by omega) (by omega)).mono ?_; rintro e w2 ⟨rfl, rfl⟩; simp only [show each1 9 = false from rfl])
      refine (sumFS _ la hfit.2.1 hfit.2.2 GA.out hca).mono ?_
      rintro e w2 ⟨u, rfl, hu, hfu, hD⟩
      have hfu2 : Hid _ := HE.out u hfu
      have hown2 := own_drawn hown hD
      have hKW2 := hKW.trans (hD.kept 0 0)
      clear hfu
      go_wp2_with (first | (go_at_call 78; refine (l1each_r _ _ (by omega) (by omega)).mono ?_; rintro e w2 ⟨rfl, rfl⟩; simp only [show each1 9 = false from rfl]) | (at_builtin; refine wpList_append_own _ rfl _ _ 38 rfl w1.heap.size 23 i0 (.float .f64 0) 1 8 Try.underlying38 hi hz0 hz1 hz2 rfl (by decide) _ _ _ rfl (hown2.alloc _) ⟨w2.heap.size, 0, none⟩ 1 1 [.float .f64 u] rfl rfl ?c1 ?c2 ?c3 ?c4 ?c5 ?_))
      case c1 => exact cell_one_new _ _ _
      case c2 => intro u hu; simp at hu; subst hu; rfl
      case c3 => unfold maxLen; omega
      case c4 => omega
      case c5 => have := hKW2.size; simp; omega
      intro v' w9 hown9 hg9 _
      have R : Hid _ := Grow.step hown2 hzl hzlt hzq hKW2 hu hfu2.out hown9 hg9
      clear hown9 hg9 hown hzl hzlt hzq hKW
      go_wp2
      go_roundw
      case rel => exact ⟨k + 1, by omega, by go_num, R.out⟩
      case measure => simp [intOf]; omega
    · obtain rfl : k = n := by omega
      have R : Hid _ := hG2.done h1 hW.out
      clear hG2 hKW
      go_wp2
      go_ret
      exact R.out

set_option maxRecDepth 100000 in
set_option maxHeartbeats 800000 in
theorem specKernel_10 (w : World) (A B C : Int) (n K : Nat) (h1 : 1 ≤ n) (hn : n ≤ 1000) (_hK : K < 18446744073709551616) {l0 h0' l1 h1' l2 h2' : Nat} {a b c : Option Addr} {la lb lc ca cb cc : Nat} {xa xb xc : List Nat}
    (fa : FS w l0 h0' a la xa) (_fb : FS w l1 h1' b lb xb) (_fc : FS w l2 h2' c lc xc) (_hca : la ≤ ca) (hs : fitB 10 (n : Int) C la lb lc = true) :
    Calls Try.prog 28 #[vagg 10 (n : Int) A B C K, .slice a la ca, .slice b lb cb, .slice c lc cc] w fun e w' => KS n (elem 10 C K xa xb xc) w e w' := by
  have HS := hs
  obtain ⟨i0, hi, hz0, hz1, hz2⟩ := info_parts infoF
  have hfit : la ≤ 1 ∧ 1 ≤ la := by simp [fitB, shapeB, cnt, lenB] at HS; omega
  clear HS
  rcases fa.at_ with hz | ⟨ga, oa, rfl, _, _, gla, kca⟩
  · omega
  have hW : Hid _ := (kept_alloc 0 0 w (vbox 10 (n : Int) A B C K)).trans (kept_alloc 0 0 _ (vbox 10 (n : Int) A B C K))
  have b0 : ((w.alloc (vbox 10 (n : Int) A B C K)).alloc (vbox 10 (n : Int) A B C K)).cell? ⟨w.heap.size, 0, none⟩ = some (.int .i64 10) := by simp
  have b1 : ((w.alloc (vbox 10 (n : Int) A B C K)).alloc (vbox 10 (n : Int) A B C K)).cell? ⟨w.heap.size, 1, none⟩ = some (.int .i64 (n : Int)) := by simp
  have b4 : ((w.alloc (vbox 10 (n : Int) A B C K)).alloc (vbox 10 (n : Int) A B C K)).cell? ⟨w.heap.size, 4, none⟩ = some (.int .i64 C) := by simp
  have b5 : ((w.alloc (vbox 10 (n : Int) A B C K)).alloc (vbox 10 (n : Int) A B C K)).cell? ⟨w.heap.size, 5, none⟩ = some (.float .f64 K) := by simp
  have bs : w.heap.size < ((w.alloc (vbox 10 (n : Int) A B C K)).alloc (vbox 10 (n : Int) A B C K)).heap.size := by simp; omega
  go_enter Try.func28, Try.ntmps28
  go_wp2_with fail
  refine (l1fits _ 10 (n : Int) A B C K la lb lc).mono ?_
  rintro e w' ⟨rfl, rfl⟩
  rw [hs]
  clear hs
  go_wp2_with fail
  have hG := grow_start ((w.alloc (vbox 10 (n : Int) A B C K)).alloc (vbox 10 (n : Int) A B C K)) (elem 10 C K xa xb xc)
  generalize hw1 : (w.alloc (vbox 10 (n : Int) A B C K)).alloc (vbox 10 (n : Int) A B C K) = w1 at b0 b1 b4 b5 bs hW hG ⊢
  clear hw1
  go_loopw [9, 10, 11, 12, 13, 14] (fun v i _ _ _ _ W => ∃ k : Nat, k ≤ n ∧ i = .int .i64 k ∧ Grow w1 k (elem 10 C K xa xb xc) v W) (fun _ i _ _ _ _ _ => n - (intOf i).toNat)
  case atStart => exact ⟨0, Nat.zero_le _, rfl, hG⟩
  case round =>
    obtain ⟨k, hk, rfl, hG2⟩ := hrel
    clear hG
    have hKW := hG2.kept
    have d1 := kept_cell hKW bs b1
    by_cases hlt : k < n
    · obtain ⟨zs, hown, hzl, hzlt, hzq, _⟩ := hG2
      have d0 := kept_cell hKW bs b0
      have d5 := kept_cell hKW bs b5
      have xx : w1.cell? ⟨ga, oa + 0, none⟩ = some (.float .f64 (xa.getD 0 0)) := by rw [hW.out.cell (p := ⟨ga, oa + 0, none⟩) gla (by omega)]; exact kca 0 (by omega)
      have x0 := kept_cell hKW (Nat.lt_of_lt_of_le gla hW.out.size) xx
      have y0 : xa.getD 0 0 < 18446744073709551616 := getD_lt fa.lt 0
      rw [Nat.add_zero] at x0
      have hla : (0 : Int) < (la : Int) := by omega
      have HE : Hid (fb (xa.getD 0 0) = fb (elem 10 C K xa xb xc k)) := by show fb (xa.getD 0 0) = fb (elem 10 C K xa xb xc k); simp [elem]
      clear xx
      generalize xa.getD 0 0 = u0 at x0 y0 HE
      go_wp2_with (first | (go_at_call 78; refine (l1each_r _ _ (by omega) (by omega)).mono ?_; rintro e w2 ⟨rfl, rfl⟩; simp only [show each1 10 = false from rfl]) | (at_builtin; refine wpList_append_own _ rfl _ _ 38 rfl w1.heap.size 23 i0 (.float .f64 0) 1 8 Try.underlying38 hi hz0 hz1 hz2 rfl (by decide) _ _ _ rfl (hown.alloc _) ⟨wr.heap.size, 0, none⟩ 1 1 [.float .f64 u0] rfl rfl ?c1 ?c2 ?c3 ?c4 ?c5 ?_))
      case c1 => exact cell_one_new _ _ _
      case c2 => intro u hu; simp at hu; subst hu; rfl
      case c3 => unfold maxLen; omega
      case c4 => omega
      case c5 => have := hKW.size; simp; omega
      intro v' w9 hown9 hg9 _
      have R : Hid _ := Grow.step hown hzl hzlt hzq hKW y0 HE.out hown9 hg9
      clear hown9 hg9 hown hzl hzlt hzq hKW
      go_wp2
      go_roundw
      case rel => exact ⟨k + 1, by omega, by go_num, R.out⟩
      case measure => simp [intOf]; omega
    · obtain rfl : k = n := by omega
      have R : Hid _ := hG2.done h1 hW.out
      clear hG2 hKW
      go_wp2
      go_ret
      exact R.out

set_option maxRecDepth 100000 in
set_option maxHeartbeats 800000 in
theorem specKernel_11 (w : World) (A B C : Int) (n K : Nat) (h1 : 1 ≤ n) (hn : n ≤ 1000) (_hK : K < 18446744073709551616) {l0 h0' l1 h1' l2 h2' : Nat} {a b c : Option Addr} {la lb lc ca cb cc : Nat} {xa xb xc : List Nat}
    (fa : FS w l0 h0' a la xa) (_fb : FS w l1 h1' b lb xb) (_fc : FS w l2 h2' c lc xc) (_hca : la ≤ ca) (hs : fitB 11 (n : Int) C la lb lc = true) :
    Calls Try.prog 28 #[vagg 11 (n : Int) A B C K, .slice a la ca, .slice b lb cb, .slice c lc cc] w fun e w' => KS n (elem 11 C K xa xb xc) w e w' := by
  have HS := hs
  obtain ⟨i0, hi, hz0, hz1, hz2⟩ := info_parts infoF
  have hfit : n ≤ 1 ∧ 1 ≤ la ∧ la ≤ 1000 ∧ 0 ≤ C ∧ C < (la : Int) := by simp [fitB, shapeB, cnt, lenB, idxB] at HS; omega
  obtain ⟨p, rfl⟩ := Int.eq_ofNat_of_zero_le hfit.2.2.2.1
  clear HS
  rcases fa.at_ with hz | ⟨ga, oa, rfl, _, _, gla, kca⟩
  · omega
  have hW : Hid _ := (kept_alloc 0 0 w (vbox 11 (n : Int) A B (p : Int) K)).trans (kept_alloc 0 0 _ (vbox 11 (n : Int) A B (p : Int) K))
  have b0 : ((w.alloc (vbox 11 (n : Int) A B (p : Int) K)).alloc (vbox 11 (n : Int) A B (p : Int) K)).cell? ⟨w.heap.size, 0, none⟩ = some (.int .i64 11) := by simp
  have b1 : ((w.alloc (vbox 11 (n : Int) A B (p : Int) K)).alloc (vbox 11 (n : Int) A B (p : Int) K)).cell? ⟨w.heap.size, 1, none⟩ = some (.int .i64 (n : Int)) := by simp
  have b4 : ((w.alloc (vbox 11 (n : Int) A B (p : Int) K)).alloc (vbox 11 (n : Int) A B (p : Int) K)).cell? ⟨w.heap.size, 4, none⟩ = some (.int .i64 (p : Int)) := by simp
  have b5 : ((w.alloc (vbox 11 (n : Int) A B (p : Int) K)).alloc (vbox 11 (n : Int) A B (p : Int) K)).cell? ⟨w.heap.size, 5, none⟩ = some (.float .f64 K) := by simp
  have bs : w.heap.size < ((w.alloc (vbox 11 (n : Int) A B (p : Int) K)).alloc (vbox 11 (n : Int) A B (p : Int) K)).heap.size := by simp; omega
  go_enter Try.func28, Try.ntmps28
  go_wp2_with fail
  refine (l1fits _ 11 (n : Int) A B (p : Int) K la lb lc).mono ?_
  rintro e w' ⟨rfl, rfl⟩
  rw [hs]
  clear hs
  go_wp2_with fail
  have hG := grow_start ((w.alloc (vbox 11 (n : Int) A B (p : Int) K)).alloc (vbox 11 (n : Int) A B (p : Int) K)) (elem 11 (p : Int) K xa xb xc)
  generalize hw1 : (w.alloc (vbox 11 (n : Int) A B (p : Int) K)).alloc (vbox 11 (n : Int) A B (p : Int) K) = w1 at b0 b1 b4 b5 bs hW hG ⊢
  clear hw1
  go_loopw [9, 10, 11, 12, 13, 14] (fun v i _ _ _ _ W => ∃ k : Nat, k ≤ n ∧ i = .int .i64 k ∧ Grow w1 k (elem 11 (p : Int) K xa xb xc) v W) (fun _ i _ _ _ _ _ => n - (intOf i).toNat)
  case atStart => exact ⟨0, Nat.zero_le _, rfl, hG⟩
  case round =>
    obtain ⟨k, hk, rfl, hG2⟩ := hrel
    clear hG
    have hKW := hG2.kept
    have d1 := kept_cell hKW bs b1
    by_cases hlt : k < n
    · obtain ⟨zs, hown, hzl, hzlt, hzq, _⟩ := hG2
      have d0 := kept_cell hKW bs b0
      have d5 := kept_cell hKW bs b5
      have xx : w1.cell? ⟨ga, oa + p, none⟩ = some (.float .f64 (xa.getD p 0)) := by rw [hW.out.cell (p := ⟨ga, oa + p, none⟩) gla (by omega)]; exact kca p (by omega)
      have x0 := kept_cell hKW (Nat.lt_of_lt_of_le gla hW.out.size) xx
      have y0 : xa.getD p 0 < 18446744073709551616 := getD_lt fa.lt p
      have hla : (p : Int) < (la : Int) := by omega
      have d4 := kept_cell hKW bs b4
      have HE : Hid (fb (xa.getD p 0) = fb (elem 11 (p : Int) K xa xb xc k)) := by show fb (xa.getD p 0) = fb (elem 11 (p : Int) K xa xb xc k); simp [elem]
      clear xx
      generalize xa.getD p 0 = u0 at x0 y0 HE
      go_wp2_with (first | (go_at_call 78; refine (l1each_r _ _ (by omega) (by omega)).mono ?_; rintro e w2 ⟨rfl, rfl⟩; simp only [show each1 11 = false from rfl]) | (at_builtin; refine wpList_append_own _ rfl _ _ 38 rfl w1.heap.size 23 i0 (.float .f64 0) 1 8 Try.underlying38 hi hz0 hz1 hz2 rfl (by decide) _ _ _ rfl (hown.alloc _) ⟨wr.heap.size, 0, none⟩ 1 1 [.float .f64 u0] rfl rfl ?c1 ?c2 ?c3 ?c4 ?c5 ?_))
      case c1 => exact cell_one_new _ _ _
      case c2 => intro u hu; simp at hu; subst hu; rfl
      case c3 => unfold maxLen; omega
      case c4 => omega
      case c5 => have := hKW.size; simp; omega
      intro v' w9 hown9 hg9 _
      have R : Hid _ := Grow.step hown hzl hzlt hzq hKW y0 HE.out hown9 hg9
      clear hown9 hg9 hown hzl hzlt hzq hKW
      go_wp2
      go_roundw
      case rel => exact ⟨k + 1, by omega, by go_num, R.out⟩
      case measure => simp [intOf]; omega
    · obtain rfl : k = n := by omega
      have R : Hid _ := hG2.done h1 hW.out
      clear hG2 hKW
      go_wp2
      go_ret
      exact R.out

set_option maxRecDepth 100000 in
set_option maxHeartbeats 800000 in
theorem specKernel_12 (w : World) (A B C : Int) (n K : Nat) (h1 : 1 ≤ n) (hn : n ≤ 1000) (_hK : K < 18446744073709551616) {l0 h0' l1 h1' l2 h2' : Nat} {a b c : Option Addr} {la lb lc ca cb cc : Nat} {xa xb xc : List Nat}
    (fa : FS w l0 h0' a la xa) (_fb : FS w l1 h1' b lb xb) (_fc : FS w l2 h2' c lc xc) (_hca : la ≤ ca) (hs : fitB 12 (n : Int) C la lb lc = true) :
    Calls Try.prog 28 #[vagg 12 (n : Int) A B C K, .slice a la ca, .slice b lb cb, .slice c lc cc] w fun e w' => KS n (elem 12 C K xa xb xc) w e w' := by
  have HS := hs
  obtain ⟨i0, hi, hz0, hz1, hz2⟩ := info_parts infoF
  have hfit : (la ≤ 1 ∧ 1 ≤ la) ∧ 0 ≤ C ∧ C < (n : Int) := by simp [fitB, shapeB, cnt, lenB, idxB] at HS; omega
  obtain ⟨p, rfl⟩ := Int.eq_ofNat_of_zero_le hfit.2.1
  clear HS
  rcases fa.at_ with hz | ⟨ga, oa, rfl, _, _, gla, kca⟩
  · omega
  have hW : Hid _ := (kept_alloc 0 0 w (vbox 12 (n : Int) A B (p : Int) K)).trans (kept_alloc 0 0 _ (vbox 12 (n : Int) A B (p : Int) K))
  have b0 : ((w.alloc (vbox 12 (n : Int) A B (p : Int) K)).alloc (vbox 12 (n : Int) A B (p : Int) K)).cell? ⟨w.heap.size, 0, none⟩ = some (.int .i64 12) := by simp
  have b1 : ((w.alloc (vbox 12 (n : Int) A B (p : Int) K)).alloc (vbox 12 (n : Int) A B (p : Int) K)).cell? ⟨w.heap.size, 1, none⟩ = some (.int .i64 (n : Int)) := by simp
  have b4 : ((w.alloc (vbox 12 (n : Int) A B (p : Int) K)).alloc (vbox 12 (n : Int) A B (p : Int) K)).cell? ⟨w.heap.size, 4, none⟩ = some (.int .i64 (p : Int)) := by simp
  have b5 : ((w.alloc (vbox 12 (n : Int) A B (p : Int) K)).alloc (vbox 12 (n : Int) A B (p : Int) K)).cell? ⟨w.heap.size, 5, none⟩ = some (.float .f64 K) := by simp
  have bs : w.heap.size < ((w.alloc (vbox 12 (n : Int) A B (p : Int) K)).alloc (vbox 12 (n : Int) A B (p : Int) K)).heap.size := by simp; omega
  go_enter Try.func28, Try.ntmps28
  go_wp2_with fail
  refine (l1fits _ 12 (n : Int) A B (p : Int) K la lb lc).mono ?_
  rintro e w' ⟨rfl, rfl⟩
  rw [hs]
  clear hs
  go_wp2_with fail
  have hG := grow_start ((w.alloc (vbox 12 (n : Int) A B (p : Int) K)).alloc (vbox 12 (n : Int) A B (p : Int) K)) (elem 12 (p : Int) K xa xb xc)
  generalize hw1 : (w.alloc (vbox 12 (n : Int) A B (p : Int) K)).alloc (vbox 12 (n : Int) A B (p : Int) K) = w1 at b0 b1 b4 b5 bs hW hG ⊢
  clear hw1
  go_loopw [9, 10, 11, 12, 13, 14] (fun v i _ _ _ _ W => ∃ k : Nat, k ≤ n ∧ i = .int .i64 k ∧ Grow w1 k (elem 12 (p : Int) K xa xb xc) v W) (fun _ i _ _ _ _ _ => n - (intOf i).toNat)
  case atStart => exact ⟨0, Nat.zero_le _, rfl, hG⟩
  case round =>
    obtain ⟨k, hk, rfl, hG2⟩ := hrel
    clear hG
    have hKW := hG2.kept
    have d1 := kept_cell hKW bs b1
    by_cases hlt : k < n
    · obtain ⟨zs, hown, hzl, hzlt, hzq, _⟩ := hG2
      have d0 := kept_cell hKW bs b0
      have d5 := kept_cell hKW bs b5
      have xx : w1.cell? ⟨ga, oa + 0, none⟩ = some (.float .f64 (xa.getD 0 0)) := by rw [hW.out.cell (p := ⟨ga, oa + 0, none⟩) gla (by omega)]; exact kca 0 (by omega)
      have x0 := kept_cell hKW (Nat.lt_of_lt_of_le gla hW.out.size) xx
      have y0 : xa.getD 0 0 < 18446744073709551616 := getD_lt fa.lt 0
      rw [Nat.add_zero] at x0
      have hla : (0 : Int) < (la : Int) := by omega
      have d4 := kept_cell hKW bs b4
      by_cases hkp : k = p
      · have HE : Hid (fb (xa.getD 0 0) = fb (elem 12 (p : Int) K xa xb xc k)) := by show fb (xa.getD 0 0) = fb (elem 12 (p : Int) K xa xb xc k); simp [elem, hkp]
        have tt : ((k : Int) == (p : Int)) = true := beq_iff_eq.2 (by omega)
        clear hkp
        generalize xa.getD 0 0 = u0 at x0 y0 HE
        go_wp2_with (first | (go_at_call 78; refine (l1each_r _ _ (by omega) (by omega)).mono ?_; rintro e w2 ⟨rfl, rfl⟩; simp only [show each1 12 = false from rfl]) | (at_builtin; refine wpList_append_own _ rfl _ _ 38 rfl w1.heap.size 23 i0 (.float .f64 0) 1 8 Try.underlying38 hi hz0 hz1 hz2 rfl (by decide) _ _ _ rfl (hown.alloc _) ⟨wr.heap.size, 0, none⟩ 1 1 [.float .f64 u0] rfl rfl ?c1 ?c2 ?c3 ?c4 ?c5 ?_))
        case c1 => exact cell_one_new _ _ _
        case c2 => intro u hu; simp at hu; subst hu; rfl
        case c3 => unfold maxLen; omega
        case c4 => omega
        case c5 => have := hKW.size; simp; omega
        intro v' w9 hown9 hg9 _
        have R : Hid _ := Grow.step hown hzl hzlt hzq hKW y0 HE.out hown9 hg9
        clear hown9 hg9 hown hzl hzlt hzq hKW
        go_wp2
        go_roundw
        case rel => exact ⟨k + 1, by omega, by go_num, R.out⟩
        case measure => simp [intOf]; omega
      · have HE : Hid (fb 0 = fb (elem 12 (p : Int) K xa xb xc k)) := by show fb 0 = fb (elem 12 (p : Int) K xa xb xc k); simp [elem, hkp]
        have tt : ((k : Int) == (p : Int)) = false := beq_eq_false_iff_ne.2 (by omega)
        clear hkp x0 y0
        go_wp2_with (first | (go_at_call 78; refine (l1each_r _ _ (by omega) (by omega)).mono ?_; rintro e w2 ⟨rfl, rfl⟩; simp only [show each1 12 = false from rfl]) | (at_builtin; refine wpList_append_own _ rfl _ _ 38 rfl w1.heap.size 23 i0 (.float .f64 0) 1 8 Try.underlying38 hi hz0 hz1 hz2 rfl (by decide) _ _ _ rfl (hown.alloc _) ⟨wr.heap.size, 0, none⟩ 1 1 [.float .f64 0] rfl rfl ?d1 ?d2 ?d3 ?d4 ?d5 ?_))
        case d1 => exact cell_one_new _ _ _
        case d2 => intro u hu; simp at hu; subst hu; rfl
        case d3 => unfold maxLen; omega
        case d4 => omega
        case d5 => have := hKW.size; simp; omega
        intro v' w9 hown9 hg9 _
        have R : Hid _ := Grow.step hown hzl hzlt hzq hKW (by omega) HE.out hown9 hg9
        clear hown9 hg9 hown hzl hzlt hzq hKW
        go_wp2
        go_roundw
        case rel => exact ⟨k + 1, by omega, by go_num, R.out⟩
        case measure => simp [intOf]; omega
    · obtain rfl : k = n := by omega
      have R : Hid _ := hG2.done h1 hW.out
      clear hG2 hKW
      go_wp2
      go_ret
      exact R.out

set_option maxRecDepth 100000 in
set_option maxHeartbeats 800000 in
theorem specKernel_13 (w : World) (A B C : Int) (n K : Nat) (h1 : 1 ≤ n) (hn : n ≤ 1000) (_hK : K < 18446744073709551616) {l0 h0' l1 h1' l2 h2' : Nat} {a b c : Option Addr} {la lb lc ca cb cc : Nat} {xa xb xc : List Nat}
    (fa : FS w l0 h0' a la xa) (_fb : FS w l1 h1' b lb xb) (_fc : FS w l2 h2' c lc xc) (_hca : la ≤ ca) (hs : fitB 13 (n : Int) C la lb lc = true) :
    Calls Try.prog 28 #[vagg 13 (n : Int) A B C K, .slice a la ca, .slice b lb cb, .slice c lc cc] w fun e w' => KS n (elem 13 C K xa xb xc) w e w' := by
  have HS := hs
  obtain ⟨i0, hi, hz0, hz1, hz2⟩ := info_parts infoF
  have hfit : (la ≤ n ∧ n ≤ la) := by simp [fitB, shapeB, cnt, lenB] at HS; omega
  obtain ⟨ea, ea2⟩ := hfit
  clear HS
  rcases fa.at_ with hz | ⟨ga, oa, rfl, _, _, gla, kca⟩
  · omega
  have hW : Hid _ := (kept_alloc 0 0 w (vbox 13 (n : Int) A B C K)).trans (kept_alloc 0 0 _ (vbox 13 (n : Int) A B C K))
  have b0 : ((w.alloc (vbox 13 (n : Int) A B C K)).alloc (vbox 13 (n : Int) A B C K)).cell? ⟨w.heap.size, 0, none⟩ = some (.int .i64 13) := by simp
  have b1 : ((w.alloc (vbox 13 (n : Int) A B C K)).alloc (vbox 13 (n : Int) A B C K)).cell? ⟨w.heap.size, 1, none⟩ = some (.int .i64 (n : Int)) := by simp
  have b4 : ((w.alloc (vbox 13 (n : Int) A B C K)).alloc (vbox 13 (n : Int) A B C K)).cell? ⟨w.heap.size, 4, none⟩ = some (.int .i64 C) := by simp
  have b5 : ((w.alloc (vbox 13 (n : Int) A B C K)).alloc (vbox 13 (n : Int) A B C K)).cell? ⟨w.heap.size, 5, none⟩ = some (.float .f64 K) := by simp
  have bs : w.heap.size < ((w.alloc (vbox 13 (n : Int) A B C K)).alloc (vbox 13 (n : Int) A B C K)).heap.size := by simp; omega
  go_enter Try.func28, Try.ntmps28
  go_wp2_with fail
  refine (l1fits _ 13 (n : Int) A B C K la lb lc).mono ?_
  rintro e w' ⟨rfl, rfl⟩
  rw [hs]
  clear hs
  go_wp2_with fail
  have hG := grow_start ((w.alloc (vbox 13 (n : Int) A B C K)).alloc (vbox 13 (n : Int) A B C K)) (elem 13 C K xa xb xc)
  generalize hw1 : (w.alloc (vbox 13 (n : Int) A B C K)).alloc (vbox 13 (n : Int) A B C K) = w1 at b0 b1 b4 b5 bs hW hG ⊢
  clear hw1
  go_loopw [9, 10, 11, 12, 13, 14] (fun v i _ _ _ _ W => ∃ k : Nat, k ≤ n ∧ i = .int .i64 k ∧ Grow w1 k (elem 13 C K xa xb xc) v W) (fun _ i _ _ _ _ _ => n - (intOf i).toNat)
  case atStart => exact ⟨0, Nat.zero_le _, rfl, hG⟩
  case round =>
    obtain ⟨k, hk, rfl, hG2⟩ := hrel
    clear hG
    have hKW := hG2.kept
    have d1 := kept_cell hKW bs b1
    by_cases hlt : k < n
    · obtain ⟨zs, hown, hzl, hzlt, hzq, _⟩ := hG2
      have d0 := kept_cell hKW bs b0
      have d5 := kept_cell hKW bs b5
      have xca := kept_cell hKW (Nat.lt_of_lt_of_le gla hW.out.size) ((by rw [hW.out.cell (p := ⟨ga, oa + k, none⟩) gla (by omega)]; exact kca k (by omega)) : w1.cell? ⟨ga, oa + k, none⟩ = some (.float .f64 (xa.getD k 0)))
      have ya : Hid _ := getD_lt fa.lt k
      have HE : Hid (∀ u, fb u = fb (one1 13 (xa.getD k 0) 0 0) → fb u = fb (elem 13 C K xa xb xc k)) := fun u h => by rw [h]; simp [one1, elem]
      generalize xa.getD k 0 = ua at xca ya HE
      have haa : (k : Int) < (la : Int) := by omega
      go_wp2_with (first | (go_at_call 78; refine (l1each_r _ _ (by omega) (by omega)).mono ?_; rintro e w2 ⟨rfl, rfl⟩; simp only [show each1 13 = true from rfl]) | (go_at_call 79; refine (l1operands_r _ _ (by omega) (by omega)).mono ?_; rintro e w2 ⟨rfl, rfl⟩; simp only [show ops1 13 = 1 from rfl]))
      refine (l1one 13 _ _ _ _ ya.out (by omega) (by omega) (by omega)).mono ?_
      rintro e w2 ⟨u, rfl, hu, hfu, hD⟩
      have hfu2 : Hid _ := HE.out u hfu
      have hown2 := own_drawn hown hD
      have hKW2 := hKW.trans (hD.kept 0 0)
      clear hfu
      go_wp2_with (first | (go_at_call 78; refine (l1each_r _ _ (by omega) (by omega)).mono ?_; rintro e w2 ⟨rfl, rfl⟩; simp only [show each1 13 = true from rfl]) | (at_builtin; refine wpList_append_own _ rfl _ _ 38 rfl w1.heap.size 23 i0 (.float .f64 0) 1 8 Try.underlying38 hi hz0 hz1 hz2 rfl (by decide) _ _ _ rfl (hown2.alloc _) ⟨w2.heap.size, 0, none⟩ 1 1 [.float .f64 u] rfl rfl ?c1 ?c2 ?c3 ?c4 ?c5 ?_))
      case c1 => exact cell_one_new _ _ _
      case c2 => intro u hu; simp at hu; subst hu; rfl
      case c3 => unfold maxLen; omega
      case c4 => omega
      case c5 => have := hKW2.size; simp; omega
      intro v' w9 hown9 hg9 _
      have R : Hid _ := Grow.step hown2 hzl hzlt hzq hKW2 hu hfu2.out hown9 hg9
      clear hown9 hg9 hown hzl hzlt hzq hKW
      go_wp2
      go_roundw
      case rel => exact ⟨k + 1, by omega, by go_num, R.out⟩
      case measure => simp [intOf]; omega
    · obtain rfl : k = n := by omega
      have R : Hid _ := hG2.done h1 hW.out
      clear hG2 hKW
      go_wp2
      go_ret
      exact R.out

end Go.Proofs.Ytcphabjekfihnaa
