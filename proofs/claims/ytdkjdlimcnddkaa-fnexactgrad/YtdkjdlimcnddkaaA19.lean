import Derived.Test.YtdkjdlimcnddkaaA18
import Derived.Test.YtdkjdlimcnddkaaA12
namespace Go.Proofs.Ytdkjdlimcnddkaa
open Go.RowKit Flt
attribute [local go_sem] alloc_drewN setCell_drewN run_store_float
theorem Stp.kept {P : Nat} {R R' : Option Nat} {w w' w'' : World} (s : Stp P R w R' w') (k : Kept 0 0 w' w'') : Stp P R w R' w'' := s.trans ⟨k.chg, .inl rfl⟩
set_option maxRecDepth 100000 in
set_option maxHeartbeats 4000000 in
theorem k_sel1 (w : World) (P : Nat) (u1 u3 : Value) (us : List Vl) (c : Int) (base : Nat) (R : Option Nat) (vv : Value) (h : BS w P u1 u3 us c base R vv) (B : Bnd us c 0) (d : Int) (xb : Nat) (cb : Cap w P R xb (.pointer (some ⟨P, 0, none⟩))) (xn : Nat) (n : Int) (cn : Cap w P R xn (.int .i64 n)) (n0 : -1000 ≤ n) (n1 : n ≤ 1000) (xv : Nat) (v : Vl) (cv : At w xv 0 v) (lv : xv < w.heap.size) (pv : xv ≠ P) (rv : R ≠ some xv) :
    Calls Try.prog 184 #[.int .i64 d, .pointer (some ⟨xb, 0, none⟩), .pointer (some ⟨xn, 0, none⟩), .pointer (some ⟨xv, 0, none⟩)] w fun e w' => Bd w P u1 u3 us c base R ([vput 1 n 0 0 0, vput 8 n v.a d (us.length : Nat)], ((us.length + 1 : Nat) : Int)) e w' := by
  have HX : Hid (∀ {w1 : World} {a : List Vl} {R1 : Option Nat} {vv : Value}, BS w1 P u1 u3 (us ++ a) (c + cellsV a) base R1 vv → Stp P R w R1 w1 → a.length ≤ 10 → -100000 ≤ cellsV a → cellsV a ≤ 100000 → ∀ op p q r, _) := fun h s l0 l1 l2 op p q r => put_next h s (by have := B.l; omega) (by have := B.c0; omega) (by have := B.c1; omega) op n p q r n0 n1
  have HY : Hid (∀ {w1 : World} {a : List Vl} {R1 : Option Nat} {vv : Value}, BS w1 P u1 u3 (us ++ a) (c + cellsV a) base R1 vv → Stp P R w R1 w1 → a.length ≤ 10 → -100000 ≤ cellsV a → cellsV a ≤ 100000 → _) := fun h s l0 l1 l2 => zeros_next h s (by have := B.l; omega) (by have := B.c0; omega) (by have := B.c1; omega) n n0 n1
  have HB : Hid (BS w P u1 u3 (us ++ []) (c + cellsV []) base R vv) := by show BS _ _ _ _ _ _ _ _ _; simpa [cellsV] using h
  have HN : Hid (-1000 ≤ n ∧ n ≤ 1000) := ⟨n0, n1⟩
  have HCB : Hid _ := cb
  have HCN : Hid _ := cn
  have HCV : Hid (∀ w' R', Stp P R w R' w' → At w' xv 0 v) := fun w' R' s => cv.stepC s lv pv rv
  have y0 := cb.at_
  have y1 := cn.at_
  obtain ⟨v0, v1, v2, v3, v4, v5⟩ := cv
  simp only [Nat.zero_add] at v1 v2 v3 v4 v5
  clear h B cb cn lv pv rv n0 n1
  go_enter Try.func184, Try.ntmps184
  go_wp2_with fail
  go_region_held3 (fun w' => w'.cell? ⟨xb, 0, none⟩ = some (.pointer (some ⟨P, 0, none⟩)) ∧ w'.cell? ⟨xn, 0, none⟩ = some (.int .i64 n) ∧ w'.cell? ⟨xv, 2, none⟩ = some (.int .i64 v.a)) (go_keep) (first
    | (go_at_call 133; refine Calls.mono (HY.out (BS.keep HB.out (kept_drew w)) ((StQ.refl _ _ _).trans ⟨(kept_drew w).chg, .inl rfl⟩) (by simp) (by simp [cellsV]) (by simp [cellsV])) ?_; rintro e w1 ⟨rfl, R1, vv1, h1, s1⟩; have H1 : Hid _ := h1; have S1 : Hid _ := s1; have z0 := (HCB.out.step s1).at_; have z1 := (HCN.out.step s1).at_; obtain ⟨t0, t1, t2, t3, t4, t5⟩ := HCV.out _ _ s1; simp only [Nat.zero_add] at t1 t2 t3 t4 t5; clear h1 s1)
    | (go_at_call 174; refine Calls.mono (HX.out H1.out S1.out (by simp) (by simp [cellsV]; have := HN.out; omega) (by simp [cellsV]; have := HN.out; omega) 8 _ _ _) ?_; rintro e w2 ⟨rfl, hR⟩; have R2 : Hid _ := hR; obtain ⟨_, _, _, s9⟩ := hR; have z0 := (HCB.out.step s9).at_; have z1 := (HCN.out.step s9).at_; obtain ⟨t0, t1, t2, t3, t4, t5⟩ := HCV.out _ _ s9; simp only [Nat.zero_add] at t1 t2 t3 t4 t5; clear s9))
  all_goals
    go_wp2
    go_ret
    exact ⟨rfl, R2.out⟩
set_option maxRecDepth 100000 in
set_option maxHeartbeats 4000000 in
theorem k_sel2 (w : World) (P : Nat) (u1 u3 : Value) (us : List Vl) (c : Int) (base : Nat) (R : Option Nat) (vv : Value) (h : BS w P u1 u3 us c base R vv) (B : Bnd us c 0) (d : Int) (xb : Nat) (cb : Cap w P R xb (.pointer (some ⟨P, 0, none⟩))) (xn : Nat) (n : Int) (cn : Cap w P R xn (.int .i64 n)) (n0 : -1000 ≤ n) (n1 : n ≤ 1000) (xv : Nat) (v : Vl) (cv : At w xv 0 v) (lv : xv < w.heap.size) (pv : xv ≠ P) (rv : R ≠ some xv) :
    Calls Try.prog 185 #[.int .i64 d, .pointer (some ⟨xb, 0, none⟩), .pointer (some ⟨xn, 0, none⟩), .pointer (some ⟨xv, 0, none⟩)] w fun e w' => Bd w P u1 u3 us c base R ([vput 1 n 0 0 0, vput 8 n v.a (us.length : Nat) d], ((us.length + 1 : Nat) : Int)) e w' := by
  have HX : Hid (∀ {w1 : World} {a : List Vl} {R1 : Option Nat} {vv : Value}, BS w1 P u1 u3 (us ++ a) (c + cellsV a) base R1 vv → Stp P R w R1 w1 → a.length ≤ 10 → -100000 ≤ cellsV a → cellsV a ≤ 100000 → ∀ op p q r, _) := fun h s l0 l1 l2 op p q r => put_next h s (by have := B.l; omega) (by have := B.c0; omega) (by have := B.c1; omega) op n p q r n0 n1
  have HY : Hid (∀ {w1 : World} {a : List Vl} {R1 : Option Nat} {vv : Value}, BS w1 P u1 u3 (us ++ a) (c + cellsV a) base R1 vv → Stp P R w R1 w1 → a.length ≤ 10 → -100000 ≤ cellsV a → cellsV a ≤ 100000 → _) := fun h s l0 l1 l2 => zeros_next h s (by have := B.l; omega) (by have := B.c0; omega) (by have := B.c1; omega) n n0 n1
  have HB : Hid (BS w P u1 u3 (us ++ []) (c + cellsV []) base R vv) := by show BS _ _ _ _ _ _ _ _ _; simpa [cellsV] using h
  have HN : Hid (-1000 ≤ n ∧ n ≤ 1000) := ⟨n0, n1⟩
  have HCB : Hid _ := cb
  have HCN : Hid _ := cn
  have HCV : Hid (∀ w' R', Stp P R w R' w' → At w' xv 0 v) := fun w' R' s => cv.stepC s lv pv rv
  have y0 := cb.at_
  have y1 := cn.at_
  obtain ⟨v0, v1, v2, v3, v4, v5⟩ := cv
  simp only [Nat.zero_add] at v1 v2 v3 v4 v5
  clear h B cb cn lv pv rv n0 n1
  go_enter Try.func185, Try.ntmps185
  go_wp2_with fail
  go_region_held3 (fun w' => w'.cell? ⟨xb, 0, none⟩ = some (.pointer (some ⟨P, 0, none⟩)) ∧ w'.cell? ⟨xn, 0, none⟩ = some (.int .i64 n) ∧ w'.cell? ⟨xv, 2, none⟩ = some (.int .i64 v.a)) (go_keep) (first
    | (go_at_call 133; refine Calls.mono (HY.out (BS.keep HB.out (kept_drew w)) ((StQ.refl _ _ _).trans ⟨(kept_drew w).chg, .inl rfl⟩) (by simp) (by simp [cellsV]) (by simp [cellsV])) ?_; rintro e w1 ⟨rfl, R1, vv1, h1, s1⟩; have H1 : Hid _ := h1; have S1 : Hid _ := s1; have z0 := (HCB.out.step s1).at_; have z1 := (HCN.out.step s1).at_; obtain ⟨t0, t1, t2, t3, t4, t5⟩ := HCV.out _ _ s1; simp only [Nat.zero_add] at t1 t2 t3 t4 t5; clear h1 s1)
    | (go_at_call 174; refine Calls.mono (HX.out H1.out S1.out (by simp) (by simp [cellsV]; have := HN.out; omega) (by simp [cellsV]; have := HN.out; omega) 8 _ _ _) ?_; rintro e w2 ⟨rfl, hR⟩; have R2 : Hid _ := hR; obtain ⟨_, _, _, s9⟩ := hR; have z0 := (HCB.out.step s9).at_; have z1 := (HCN.out.step s9).at_; obtain ⟨t0, t1, t2, t3, t4, t5⟩ := HCV.out _ _ s9; simp only [Nat.zero_add] at t1 t2 t3 t4 t5; clear s9))
  all_goals
    go_wp2
    go_ret
    exact ⟨rfl, R2.out⟩
set_option maxRecDepth 100000 in
set_option maxHeartbeats 4000000 in
theorem k_max0 (w : World) (P : Nat) (u1 u3 : Value) (us : List Vl) (c : Int) (base : Nat) (R : Option Nat) (vv : Value) (h : BS w P u1 u3 us c base R vv) (B : Bnd us c 0) (d : Int) (xb : Nat) (cb : Cap w P R xb (.pointer (some ⟨P, 0, none⟩))) (xn : Nat) (n : Int) (cn : Cap w P R xn (.int .i64 n)) (n0 : -1000 ≤ n) (n1 : n ≤ 1000) (xv : Nat) (v : Vl) (cv : At w xv 0 v) :
    Calls Try.prog 186 #[.int .i64 d, .pointer (some ⟨xb, 0, none⟩), .pointer (some ⟨xn, 0, none⟩), .pointer (some ⟨xv, 0, none⟩)] w fun e w' => Bd w P u1 u3 us c base R ([vput 3 n v.a v.b 0, vput 1 n 0 0 0, vput 8 n (us.length : Nat) d ((us.length + 1 : Nat) : Int)], ((us.length + 2 : Nat) : Int)) e w' := by
  have HX : Hid (∀ {w1 : World} {a : List Vl} {R1 : Option Nat} {vv : Value}, BS w1 P u1 u3 (us ++ a) (c + cellsV a) base R1 vv → Stp P R w R1 w1 → a.length ≤ 10 → -100000 ≤ cellsV a → cellsV a ≤ 100000 → ∀ op p q r, _) := fun h s l0 l1 l2 op p q r => put_next h s (by have := B.l; omega) (by have := B.c0; omega) (by have := B.c1; omega) op n p q r n0 n1
  have HY : Hid (∀ {w1 : World} {a : List Vl} {R1 : Option Nat} {vv : Value}, BS w1 P u1 u3 (us ++ a) (c + cellsV a) base R1 vv → Stp P R w R1 w1 → a.length ≤ 10 → -100000 ≤ cellsV a → cellsV a ≤ 100000 → _) := fun h s l0 l1 l2 => zeros_next h s (by have := B.l; omega) (by have := B.c0; omega) (by have := B.c1; omega) n n0 n1
  have HB : Hid (BS w P u1 u3 (us ++ []) (c + cellsV []) base R vv) := by show BS _ _ _ _ _ _ _ _ _; simpa [cellsV] using h
  have HN : Hid (-1000 ≤ n ∧ n ≤ 1000) := ⟨n0, n1⟩
  have HCB : Hid _ := cb
  have HCN : Hid _ := cn
  have y0 := cb.at_
  have y1 := cn.at_
  obtain ⟨v0, v1, v2, v3, v4, v5⟩ := cv
  simp only [Nat.zero_add] at v1 v2 v3 v4 v5
  clear h B cb cn n0 n1
  go_enter Try.func186, Try.ntmps186
  go_wp2_with fail
  refine Calls.mono (HX.out HB.out (StQ.refl _ _ _) (by simp) (by simp [cellsV]) (by simp [cellsV]) 3 _ _ _) ?_
  rintro e w1 ⟨rfl, R1, vv1, h1, s1⟩
  have H1 : Hid _ := h1
  have S1 : Hid _ := s1
  have x0 := (HCB.out.step s1).at_
  have x1 := (HCN.out.step s1).at_
  clear h1 s1 v0 v1 v2 v3 v4 v5 y0 y1
  go_wp2_with fail
  go_region_held3 (fun w' => w'.cell? ⟨xb, 0, none⟩ = some (.pointer (some ⟨P, 0, none⟩)) ∧ w'.cell? ⟨xn, 0, none⟩ = some (.int .i64 n)) (go_keep) (first
    | (go_at_call 133; refine Calls.mono (HY.out (BS.keep H1.out (kept_drew w1)) (Stp.kept S1.out (kept_drew w1)) (by simp) (by simp [cellsV]; have := HN.out; omega) (by simp [cellsV]; have := HN.out; omega)) ?_; rintro e w2 ⟨rfl, R2, vv2, h2, s2⟩; have H2 : Hid _ := h2; have S2 : Hid _ := s2; have z0 := (HCB.out.step s2).at_; have z1 := (HCN.out.step s2).at_; clear h2 s2)
    | (go_at_call 174; refine Calls.mono (HX.out H2.out S2.out (by simp) (by simp [cellsV]; have := HN.out; omega) (by simp [cellsV]; have := HN.out; omega) 8 _ _ _) ?_; rintro e w3 ⟨rfl, hR⟩; have R3 : Hid _ := hR; obtain ⟨_, _, _, s9⟩ := hR; have z0 := (HCB.out.step s9).at_; have z1 := (HCN.out.step s9).at_; clear s9))
  all_goals
    go_wp2
    go_ret
    exact ⟨rfl, R3.out⟩
set_option maxRecDepth 100000 in
set_option maxHeartbeats 4000000 in
theorem k_max1 (w : World) (P : Nat) (u1 u3 : Value) (us : List Vl) (c : Int) (base : Nat) (R : Option Nat) (vv : Value) (h : BS w P u1 u3 us c base R vv) (B : Bnd us c 0) (d : Int) (xb : Nat) (cb : Cap w P R xb (.pointer (some ⟨P, 0, none⟩))) (xn : Nat) (n : Int) (cn : Cap w P R xn (.int .i64 n)) (n0 : -1000 ≤ n) (n1 : n ≤ 1000) (xv : Nat) (v : Vl) (cv : At w xv 0 v) :
    Calls Try.prog 187 #[.int .i64 d, .pointer (some ⟨xb, 0, none⟩), .pointer (some ⟨xn, 0, none⟩), .pointer (some ⟨xv, 0, none⟩)] w fun e w' => Bd w P u1 u3 us c base R ([vput 3 n v.a v.b 0, vput 1 n 0 0 0, vput 8 n (us.length : Nat) ((us.length + 1 : Nat) : Int) d], ((us.length + 2 : Nat) : Int)) e w' := by
  have HX : Hid (∀ {w1 : World} {a : List Vl} {R1 : Option Nat} {vv : Value}, BS w1 P u1 u3 (us ++ a) (c + cellsV a) base R1 vv → Stp P R w R1 w1 → a.length ≤ 10 → -100000 ≤ cellsV a → cellsV a ≤ 100000 → ∀ op p q r, _) := fun h s l0 l1 l2 op p q r => put_next h s (by have := B.l; omega) (by have := B.c0; omega) (by have := B.c1; omega) op n p q r n0 n1
  have HY : Hid (∀ {w1 : World} {a : List Vl} {R1 : Option Nat} {vv : Value}, BS w1 P u1 u3 (us ++ a) (c + cellsV a) base R1 vv → Stp P R w R1 w1 → a.length ≤ 10 → -100000 ≤ cellsV a → cellsV a ≤ 100000 → _) := fun h s l0 l1 l2 => zeros_next h s (by have := B.l; omega) (by have := B.c0; omega) (by have := B.c1; omega) n n0 n1
  have HB : Hid (BS w P u1 u3 (us ++ []) (c + cellsV []) base R vv) := by show BS _ _ _ _ _ _ _ _ _; simpa [cellsV] using h
  have HN : Hid (-1000 ≤ n ∧ n ≤ 1000) := ⟨n0, n1⟩
  have HCB : Hid _ := cb
  have HCN : Hid _ := cn
  have y0 := cb.at_
  have y1 := cn.at_
  obtain ⟨v0, v1, v2, v3, v4, v5⟩ := cv
  simp only [Nat.zero_add] at v1 v2 v3 v4 v5
  clear h B cb cn n0 n1
  go_enter Try.func187, Try.ntmps187
  go_wp2_with fail
  refine Calls.mono (HX.out HB.out (StQ.refl _ _ _) (by simp) (by simp [cellsV]) (by simp [cellsV]) 3 _ _ _) ?_
  rintro e w1 ⟨rfl, R1, vv1, h1, s1⟩
  have H1 : Hid _ := h1
  have S1 : Hid _ := s1
  have x0 := (HCB.out.step s1).at_
  have x1 := (HCN.out.step s1).at_
  clear h1 s1 v0 v1 v2 v3 v4 v5 y0 y1
  go_wp2_with fail
  go_region_held3 (fun w' => w'.cell? ⟨xb, 0, none⟩ = some (.pointer (some ⟨P, 0, none⟩)) ∧ w'.cell? ⟨xn, 0, none⟩ = some (.int .i64 n)) (go_keep) (first
    | (go_at_call 133; refine Calls.mono (HY.out (BS.keep H1.out (kept_drew w1)) (Stp.kept S1.out (kept_drew w1)) (by simp) (by simp [cellsV]; have := HN.out; omega) (by simp [cellsV]; have := HN.out; omega)) ?_; rintro e w2 ⟨rfl, R2, vv2, h2, s2⟩; have H2 : Hid _ := h2; have S2 : Hid _ := s2; have z0 := (HCB.out.step s2).at_; have z1 := (HCN.out.step s2).at_; clear h2 s2)
    | (go_at_call 174; refine Calls.mono (HX.out H2.out S2.out (by simp) (by simp [cellsV]; have := HN.out; omega) (by simp [cellsV]; have := HN.out; omega) 8 _ _ _) ?_; rintro e w3 ⟨rfl, hR⟩; have R3 : Hid _ := hR; obtain ⟨_, _, _, s9⟩ := hR; have z0 := (HCB.out.step s9).at_; have z1 := (HCN.out.step s9).at_; clear s9))
  all_goals
    go_wp2
    go_ret
    exact ⟨rfl, R3.out⟩
set_option maxRecDepth 100000 in
set_option maxHeartbeats 4000000 in
theorem k_sum (w : World) (P : Nat) (u1 u3 : Value) (us : List Vl) (c : Int) (base : Nat) (R : Option Nat) (vv : Value) (h : BS w P u1 u3 us c base R vv) (B : Bnd us c 0) (d : Int) (xb : Nat) (cb : Cap w P R xb (.pointer (some ⟨P, 0, none⟩))) (xv : Nat) (v : Vl) (cv : At w xv 0 v) (lv : xv < w.heap.size) (pv : xv ≠ P) (rv : R ≠ some xv) (j : Nat) (ej : v.a = (j : Int)) (hj : j < us.length) (n : Int) (en : (us.getD j Vl.zero).len = n) (n0 : -1000 ≤ n) (n1 : n ≤ 1000) :
    Calls Try.prog 188 #[.int .i64 d, .pointer (some ⟨xb, 0, none⟩), .pointer (some ⟨xv, 0, none⟩)] w fun e w' => Bd w P u1 u3 us c base R ([vput 10 n d 0 0], (us.length : Nat)) e w' := by
  have HX : Hid (∀ w1, w1 = w.drew → _) := fun w1 (e : w1 = w.drew) => put_bd w.drew P u1 u3 us c base R vv 10 n d 0 0 (BS.keep h (kept_drew w)) (by have := B.l; omega) (by have := B.c0; omega) (by have := B.c1; omega) (by omega) (by omega)
  have HL : Hid _ := bldLen w.drew P u1 u3 us c base R vv (BS.keep h (kept_drew w)) j hj B.l
  rw [en] at HL
  have HCB : Hid _ := cb
  have HCV : Hid (∀ w' R', Stp P R w R' w' → At w' xv 0 v) := fun w' R' s => cv.stepC s lv pv rv
  have y0 := cb.at_
  obtain ⟨v0, v1, v2, v3, v4, v5⟩ := cv
  simp only [Nat.zero_add] at v1 v2 v3 v4 v5
  have HKD : Hid (Kept 0 0 w w.drew) := kept_drew w
  rw [ej] at v2
  clear h B cb lv pv rv n0 n1 en
  go_enter Try.func188, Try.ntmps188
  go_wp2_with fail
  go_region_held3 (fun w' => w'.cell? ⟨xb, 0, none⟩ = some (.pointer (some ⟨P, 0, none⟩)) ∧ w'.cell? ⟨xv, 2, none⟩ = some (.int .i64 (j : Int))) (go_keep) (first
    | (go_at_call 134; refine Calls.mono HL.out ?_; rintro e w1 ⟨rfl, rfl⟩)
    | (go_at_call 174; refine Calls.mono (HX.out _ rfl) ?_; rintro e w2 ⟨rfl, R2', vv2, h2, s2⟩; have s9 : Stp P R w R2' w2 := StQ.trans ⟨HKD.out.chg, .inl rfl⟩ s2; have R2 : Hid (∃ R' vv', BS w2 P u1 u3 (us ++ [vput 10 n d 0 0]) (c + cellsV [vput 10 n d 0 0]) base R' vv' ∧ Stp P R w R' w2) := ⟨R2', vv2, h2, s9⟩; have z0 := (HCB.out.step s9).at_; obtain ⟨t0, t1, t2, t3, t4, t5⟩ := HCV.out _ _ s9; simp only [Nat.zero_add] at t1 t2 t3 t4 t5; rw [ej] at t2; clear s9 h2 s2))
  all_goals
    go_wp2
    go_ret
    exact ⟨rfl, R2.out⟩
set_option maxRecDepth 100000 in
set_option maxHeartbeats 4000000 in
theorem k_pick (w : World) (P : Nat) (u1 u3 : Value) (us : List Vl) (c : Int) (base : Nat) (R : Option Nat) (vv : Value) (h : BS w P u1 u3 us c base R vv) (B : Bnd us c 0) (d : Int) (xb : Nat) (cb : Cap w P R xb (.pointer (some ⟨P, 0, none⟩))) (xv : Nat) (v : Vl) (cv : At w xv 0 v) (lv : xv < w.heap.size) (pv : xv ≠ P) (rv : R ≠ some xv) (j : Nat) (ej : v.a = (j : Int)) (hj : j < us.length) (n : Int) (en : (us.getD j Vl.zero).len = n) (n0 : -1000 ≤ n) (n1 : n ≤ 1000) :
    Calls Try.prog 190 #[.int .i64 d, .pointer (some ⟨xb, 0, none⟩), .pointer (some ⟨xv, 0, none⟩)] w fun e w' => Bd w P u1 u3 us c base R ([vput 12 n d 0 v.c], (us.length : Nat)) e w' := by
  have HX : Hid (∀ w1, w1 = w.drew → _) := fun w1 (e : w1 = w.drew) => put_bd w.drew P u1 u3 us c base R vv 12 n d 0 v.c (BS.keep h (kept_drew w)) (by have := B.l; omega) (by have := B.c0; omega) (by have := B.c1; omega) (by omega) (by omega)
  have HL : Hid _ := bldLen w.drew P u1 u3 us c base R vv (BS.keep h (kept_drew w)) j hj B.l
  rw [en] at HL
  have HCB : Hid _ := cb
  have HCV : Hid (∀ w' R', Stp P R w R' w' → At w' xv 0 v) := fun w' R' s => cv.stepC s lv pv rv
  have y0 := cb.at_
  obtain ⟨v0, v1, v2, v3, v4, v5⟩ := cv
  simp only [Nat.zero_add] at v1 v2 v3 v4 v5
  have HKD : Hid (Kept 0 0 w w.drew) := kept_drew w
  rw [ej] at v2
  clear h B cb lv pv rv n0 n1 en
  go_enter Try.func190, Try.ntmps190
  go_wp2_with fail
  go_region_held3 (fun w' => w'.cell? ⟨xb, 0, none⟩ = some (.pointer (some ⟨P, 0, none⟩)) ∧ w'.cell? ⟨xv, 2, none⟩ = some (.int .i64 (j : Int)) ∧ w'.cell? ⟨xv, 4, none⟩ = some (.int .i64 v.c)) (go_keep) (first
    | (go_at_call 134; refine Calls.mono HL.out ?_; rintro e w1 ⟨rfl, rfl⟩)
    | (go_at_call 174; refine Calls.mono (HX.out _ rfl) ?_; rintro e w2 ⟨rfl, R2', vv2, h2, s2⟩; have s9 : Stp P R w R2' w2 := StQ.trans ⟨HKD.out.chg, .inl rfl⟩ s2; have R2 : Hid (∃ R' vv', BS w2 P u1 u3 (us ++ [vput 12 n d 0 v.c]) (c + cellsV [vput 12 n d 0 v.c]) base R' vv' ∧ Stp P R w R' w2) := ⟨R2', vv2, h2, s9⟩; have z0 := (HCB.out.step s9).at_; obtain ⟨t0, t1, t2, t3, t4, t5⟩ := HCV.out _ _ s9; simp only [Nat.zero_add] at t1 t2 t3 t4 t5; rw [ej] at t2; clear s9 h2 s2))
  all_goals
    go_wp2
    go_ret
    exact ⟨rfl, R2.out⟩
theorem opp_next {w w1 : World} {P : Nat} {u1 u3 : Value} {us a : List Vl} {c : Int} {base : Nat} {R R1 : Option Nat} {vv : Value} (h : BS w1 P u1 u3 (us ++ a) (c + cellsV a) base R1 vv) (s : Stp P R w R1 w1) (B : Bw (us ++ a) (c + cellsV a)) (d : Int) (xb : Nat) (cb : w1.cell? ⟨xb, 0, none⟩ = some (.pointer (some ⟨P, 0, none⟩))) (xn : Nat) (n : Int) (cn : w1.cell? ⟨xn, 0, none⟩ = some (.int .i64 n)) (n0 : -1000 ≤ n) (n1 : n ≤ 1000) :
    Calls Try.prog 173 #[.int .i64 d, .pointer (some ⟨xb, 0, none⟩), .pointer (some ⟨xn, 0, none⟩)] w1 fun e w' => Bd w P u1 u3 us c base R (a ++ [vput 6 n d 0 0], ((us.length + a.length : Nat) : Int)) e w' :=
  (k_opp w1 P u1 u3 (us ++ a) (c + cellsV a) base R1 vv h B d xb cb xn n cn n0 n1).mono fun e w' hb => by
    rw [List.length_append] at hb
    exact Bd.after s hb
set_option maxRecDepth 100000 in
set_option maxHeartbeats 4000000 in
theorem k_divB (w : World) (P : Nat) (u1 u3 : Value) (us : List Vl) (c : Int) (base : Nat) (R : Option Nat) (vv : Value) (h : BS w P u1 u3 us c base R vv) (B : Bnd us c 0) (d : Int) (xb : Nat) (cb : Cap w P R xb (.pointer (some ⟨P, 0, none⟩))) (xn : Nat) (n : Int) (cn : Cap w P R xn (.int .i64 n)) (n0 : -1000 ≤ n) (n1 : n ≤ 1000) (xi : Nat) (i : Int) (ci : Cap w P R xi (.int .i64 i)) (xo : Nat) (co : Cap w P R xo (.func (.func 173) #[] #[.pointer (some ⟨xb, 0, none⟩), .pointer (some ⟨xn, 0, none⟩)])) (xv : Nat) (v : Vl) (cv : At w xv 0 v) (lv : xv < w.heap.size) (pv : xv ≠ P) (rv : R ≠ some xv) :
    Calls Try.prog 178 #[.int .i64 d, .pointer (some ⟨xb, 0, none⟩), .pointer (some ⟨xn, 0, none⟩), .pointer (some ⟨xi, 0, none⟩), .pointer (some ⟨xo, 0, none⟩), .pointer (some ⟨xv, 0, none⟩)] w fun e w' => Bd w P u1 u3 us c base R ([vput 4 n d i 0, vput 5 n (us.length : Nat) v.b 0, vput 6 n ((us.length + 1 : Nat) : Int) 0 0], ((us.length + 2 : Nat) : Int)) e w' := by
  have HX : Hid (∀ {w1 : World} {a : List Vl} {R1 : Option Nat} {vv : Value}, BS w1 P u1 u3 (us ++ a) (c + cellsV a) base R1 vv → Stp P R w R1 w1 → a.length ≤ 10 → -100000 ≤ cellsV a → cellsV a ≤ 100000 → ∀ op p q r, _) := fun h s l0 l1 l2 op p q r => put_next h s (by have := B.l; omega) (by have := B.c0; omega) (by have := B.c1; omega) op n p q r n0 n1
  have HY : Hid (∀ {w1 : World} {a : List Vl} {R1 : Option Nat} {vv : Value}, BS w1 P u1 u3 (us ++ a) (c + cellsV a) base R1 vv → Stp P R w R1 w1 → a.length ≤ 10 → -100000 ≤ cellsV a → cellsV a ≤ 100000 → _) := fun h s l0 l1 l2 => zeros_next h s (by have := B.l; omega) (by have := B.c0; omega) (by have := B.c1; omega) n n0 n1
  have HB : Hid (BS w P u1 u3 (us ++ []) (c + cellsV []) base R vv) := by show BS _ _ _ _ _ _ _ _ _; simpa [cellsV] using h
  have HN : Hid (-1000 ≤ n ∧ n ≤ 1000) := ⟨n0, n1⟩
  have HCB : Hid _ := cb
  have HCN : Hid _ := cn
  have HCO : Hid _ := co
  have HBB : Hid _ := B
  have HCV : Hid (∀ w' R', Stp P R w R' w' → At w' xv 0 v) := fun w' R' s => cv.stepC s lv pv rv
  have y0 := cb.at_
  have y1 := cn.at_
  have y2 := ci.at_
  clear h B cb cn lv pv rv n0 n1 ci co cv
  go_enter Try.func178, Try.ntmps178
  go_wp2_with fail
  refine Calls.mono (HX.out HB.out (StQ.refl _ _ _) (by simp) (by simp [cellsV]) (by simp [cellsV]) 4 _ _ _) ?_
  rintro e w1 ⟨rfl, R1, vv1, h1, s1⟩
  have H1 : Hid _ := h1
  have S1 : Hid _ := s1
  have x0 := (HCB.out.step s1).at_
  have x1 := (HCN.out.step s1).at_
  have x2 := (HCO.out.step s1).at_
  obtain ⟨v0, v1, v2, v3, v4, v5⟩ := HCV.out _ _ s1
  simp only [Nat.zero_add] at v1 v2 v3 v4 v5
  clear h1 s1 y0 y1 y2
  go_wp2_with fail
  go_region_held3 (fun w' => w'.cell? ⟨xb, 0, none⟩ = some (.pointer (some ⟨P, 0, none⟩)) ∧ w'.cell? ⟨xn, 0, none⟩ = some (.int .i64 n) ∧ w'.cell? ⟨xo, 0, none⟩ = some (.func (.func 173) #[] #[.pointer (some ⟨xb, 0, none⟩), .pointer (some ⟨xn, 0, none⟩)]) ∧ w'.cell? ⟨xv, 3, none⟩ = some (.int .i64 v.b)) (go_keep) (first
    | (go_at_call 174; refine Calls.mono (HX.out (BS.keep H1.out (kept_drew w1)) (Stp.kept S1.out (kept_drew w1)) (by simp) (by simp [cellsV]; have := HN.out; omega) (by simp [cellsV]; have := HN.out; omega) 5 _ _ _) ?_; rintro e w2 ⟨rfl, R2, vv2, h2, s2⟩; have H2 : Hid _ := h2; have S2 : Hid _ := s2; have z0 := (HCB.out.step s2).at_; have z1 := (HCN.out.step s2).at_; have z2 := (HCO.out.step s2).at_; obtain ⟨t0, t1, t2, t3, t4, t5⟩ := HCV.out _ _ s2; simp only [Nat.zero_add] at t1 t2 t3 t4 t5; clear h2 s2)
    | (go_at_call 173; refine Calls.mono (opp_next H2.out S2.out ⟨by have := HBB.out.l; simp; omega, by have := HBB.out.c0; have := HN.out; simp [cellsV]; omega, by have := HBB.out.c1; have := HN.out; simp [cellsV]; omega⟩ _ xb z0 xn n z1 HN.out.1 HN.out.2) ?_; rintro e w3 ⟨rfl, hR⟩; have R3 : Hid _ := hR; obtain ⟨_, _, _, s9⟩ := hR; have z0' := (HCB.out.step s9).at_; have z1' := (HCN.out.step s9).at_; have z2' := (HCO.out.step s9).at_; obtain ⟨t0', t1', t2', t3', t4', t5'⟩ := HCV.out _ _ s9; simp only [Nat.zero_add] at t1' t2' t3' t4' t5'; clear s9))
  all_goals
    go_wp2
    go_ret
    exact ⟨rfl, R3.out⟩
end Go.Proofs.Ytdkjdlimcnddkaa
