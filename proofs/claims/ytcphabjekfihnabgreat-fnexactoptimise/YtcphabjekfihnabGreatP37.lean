import Derived.Test.YtcphabjekfihnabGreatP34
import Derived.Test.YtcphabjekfihnabGreatP36
namespace Go.Proofs.YtcphabjekfihnabGreat
open Go.RowKit Flt
attribute [local go_sem] alloc_drewN setCell_drewN run_store_float

/-! PassFold, the program's side: what it holds in its lists. -/
theorem okV_kern {ins : List Int} {vs : List Vl} {i : Nat} (ho : okV ins vs i = true) (h0 : (vs.getD i Vl.zero).op ≠ 0) (F : Int → List Nat) (hF : ∀ o ∈ opsOf (vs.getD i Vl.zero), ((F o).length : Int) = (vs.getD o.toNat Vl.zero).len) (K : Nat) :
    (kern (vs.getD i Vl.zero).op (vs.getD i Vl.zero).len (vs.getD i Vl.zero).c K (if 0 < cnt (vs.getD i Vl.zero).op then F (vs.getD i Vl.zero).a else []) (if 1 < cnt (vs.getD i Vl.zero).op then F (vs.getD i Vl.zero).b else []) (if 2 < cnt (vs.getD i Vl.zero).op then F (vs.getD i Vl.zero).c else [])).length = (vs.getD i Vl.zero).len.toNat ∧ 1 ≤ (vs.getD i Vl.zero).len.toNat := by
  have hlen := of_decide_eq_true (okV_lenB ho)
  unfold okV at ho
  generalize vs.getD i Vl.zero = v at ho hlen hF h0 ⊢
  rw [Bool.and_eq_true, Bool.and_eq_true] at ho
  obtain ⟨⟨h1, h2⟩, h3⟩ := ho
  rw [if_neg h0, Bool.and_eq_true] at h3
  have hs := h3.2
  have hc := cnt_le v.op
  refine ⟨?_, by omega⟩
  rw [kern_len]
  unfold fitB
  rw [h1, Bool.true_and]
  unfold opsOf at hs hF
  rcases (by omega : cnt v.op = 0 ∨ cnt v.op = 1 ∨ cnt v.op = 2 ∨ cnt v.op = 3) with e | e | e | e
  · rw [e] at hs ⊢; exact hs
  · rw [e] at hs hF ⊢
    simp only [List.take_succ_cons, List.take_zero, List.map_cons, List.map_nil, List.mem_cons, List.not_mem_nil, or_false, forall_eq] at hs hF ⊢
    rw [if_pos (by omega), hF]
    exact hs
  · rw [e] at hs hF ⊢
    simp only [List.take_succ_cons, List.take_zero, List.map_cons, List.map_nil] at hs hF ⊢
    rw [if_pos (by omega), if_pos (by omega), hF v.a (by simp), hF v.b (by simp)]
    exact hs
  · rw [e] at hs hF ⊢
    simp only [List.take_succ_cons, List.take_zero, List.map_cons, List.map_nil] at hs hF ⊢
    rw [if_pos (by omega), if_pos (by omega), if_pos (by omega), hF v.a (by simp), hF v.b (by simp), hF v.c (by simp)]
    exact hs
/-- All operands are constants by now, and it is no input. -/
def ofC (us : List Vl) (v : Vl) : Bool := ((opsOf v).all fun o => (us.getD o.toNat Vl.zero).op == 1) && v.op != 0
theorem opsOf_nil {v : Vl} (h : cnt v.op = 0) : opsOf v = [] := by unfold opsOf; rw [h]; rfl
theorem ofC_foldB {us news : List Vl} {v : Vl} (hL : Lk us news) : foldB news v = (ofC us v && decide (0 < cnt v.op)) := by
  unfold foldB ofC
  have e : ((opsOf v).all fun o => (news.getD o.toNat Vl.zero).op == 1) = ((opsOf v).all fun o => (us.getD o.toNat Vl.zero).op == 1) := by
    congr 1
    funext o
    have := congrArg Vl.op (hL.at_ o.toNat)
    have e : (us.getD o.toNat Vl.zero).op = (news.getD o.toNat Vl.zero).op := this
    rw [e]
  rw [e]
  by_cases c : 0 < cnt v.op
  · have h0 : v.op ≠ 0 := fun h => by rw [h] at c; exact absurd c (by decide)
    simp [c, h0]
  · simp [c]
theorem cnt0 {op : Int} (h : 0 ≤ op ∧ op ≤ 13) (hc : ¬ 0 < cnt op) (h0 : op ≠ 0) : op = 1 := by
  unfold cnt at hc
  split at hc
  · omega
  · split at hc
    · omega
    · split at hc
      · omega
      · omega
theorem fold_A {us news : List Vl} {v : Vl} (hL : Lk us news) (h : ofC us v = false) : foldV news v = v ∧ v.op ≠ 1 := by
  constructor
  · unfold foldV
    rw [if_neg (fun c => by rw [ofC_foldB hL, h] at c; exact absurd c.1 (by simp))]
  · intro c
    unfold ofC at h
    rw [opsOf_nil (by rw [c]; decide), c] at h
    simp at h
/-- What is held for the constants among the first i. -/
def Held (us : List Vl) (Vs : List (List Nat)) (i : Nat) : Prop := ∀ j, j < i → (us.getD j Vl.zero).op = 1 → same (Vs.getD j []) (List.replicate (us.getD j Vl.zero).len.toNat (us.getD j Vl.zero).k)
theorem held_arg {us news : List Vl} {Vs : List (List Nat)} {v : Vl} {i : Nat} (hL : Lk us news) (hH : Held us Vs i) (ho : ∀ o ∈ opsOf v, 0 ≤ o ∧ o < i) (hc : ofC us v = true) : ∀ o ∈ opsOf v, same (Vs.getD o.toNat []) (argL news o) := by
  intro o h
  have hb := ho o h
  unfold ofC at hc
  rw [Bool.and_eq_true] at hc
  have h1 := List.all_eq_true.1 hc.1 o h
  rw [beq_iff_eq] at h1
  exact same_trans (hH o.toNat (by omega) h1) (argL_same hL o)
theorem kop_eq (v : Vl) (Vs : List (List Nat)) : kop v Vs = kern v.op v.len v.c v.k (if 0 < cnt v.op then Vs.getD v.a.toNat [] else []) (if 1 < cnt v.op then Vs.getD v.b.toNat [] else []) (if 2 < cnt v.op then Vs.getD v.c.toNat [] else []) := rfl
theorem kop_foldR {us news : List Vl} {Vs : List (List Nat)} {v : Vl} {i : Nat} (hL : Lk us news) (hH : Held us Vs i) (ho : ∀ o ∈ opsOf v, 0 ≤ o ∧ o < i) (hc : ofC us v = true) (hW : Words Vs) (hkb : Kb news) : same (kop v Vs) (foldR news v) := by
  have hA := held_arg hL hH ho hc
  have c3 := cnt_le v.op
  rw [kop_eq]
  unfold foldR
  refine kern_congr ?_ ?_ ?_ (ite_lt (hW _)) (ite_lt (argL_lt hkb _))
  · by_cases c : 0 < cnt v.op
    · rw [if_pos c, if_pos c]; exact hA _ (opsOf_a (by omega))
    · rw [if_neg c, if_neg c]; rfl
  · by_cases c : 1 < cnt v.op
    · rw [if_pos c, if_pos c]; exact hA _ (opsOf_b (by omega))
    · rw [if_neg c, if_neg c]; rfl
  · by_cases c : 2 < cnt v.op
    · rw [if_pos c, if_pos c]; exact hA _ (opsOf_c (by omega))
    · rw [if_neg c, if_neg c]; rfl
theorem uni_rep {zs : List Nat} {n : Nat} (hu : uni zs = true) (hl : zs.length = n) : same zs (List.replicate n (zs.getD 0 0)) := by
  unfold uni at hu
  rw [Bool.and_eq_true] at hu
  unfold same
  rw [List.map_replicate, List.eq_replicate_iff]
  refine ⟨by simp [hl], fun b hb => ?_⟩
  obtain ⟨x, hx, rfl⟩ := List.mem_map.1 hb
  exact beq_iff_eq.1 (List.all_eq_true.1 hu.2 x hx)
theorem spare_const {ins : List Int} {vs : List Vl} {i : Nat} (h : okV ins vs i = true) (h1 : (vs.getD i Vl.zero).op = 1) : (vs.getD i Vl.zero).a = 0 ∧ (vs.getD i Vl.zero).b = 0 ∧ (vs.getD i Vl.zero).c = 0 := by
  unfold okV at h
  generalize vs.getD i Vl.zero = v at *
  rw [Bool.and_eq_true, Bool.and_eq_true] at h
  have hs := h.1.2
  unfold spareB at hs
  have e1 : cnt v.op = 0 := by rw [h1]; decide
  have e2 : placeB v.op = false := by rw [h1]; decide
  rw [e1, e2, h1] at hs
  refine ⟨?_, ?_, ?_⟩
  · by_cases c : v.a = 0
    · exact c
    · simp [c] at hs
  · by_cases c : v.b = 0
    · exact c
    · simp [c] at hs
  · by_cases c : v.c = 0
    · exact c
    · simp [c] at hs
theorem kern_const {len C : Int} {K : Nat} {n : Nat} (h : (kern 1 len C K [] [] []).length = n) : kern 1 len C K [] [] [] = List.replicate n K := by
  subst h
  unfold kern
  split
  · rw [List.eq_replicate_iff]
    refine ⟨rfl, fun b hb => ?_⟩
    obtain ⟨x, _, rfl⟩ := List.mem_map.1 hb
    unfold elem
    rw [if_pos rfl]
  · rfl
/-- A value all of whose operands are constants: what the program makes of it. -/
theorem fold_Z {ins : List Int} {us news vs : List Vl} {Vs : List (List Nat)} {i : Nat} {zs : List Nat} (hok : okV ins vs i = true) (hL : Lk us news) (hH : Held us Vs i) (hc : ofC us (vs.getD i Vl.zero) = true) (hW : Words Vs) (hkb : Kb news) (hlen : ∀ j, j < i → (us.getD j Vl.zero).len = (vs.getD j Vl.zero).len) (hlen1 : ∀ j, j < i → 0 ≤ (us.getD j Vl.zero).len) (hz : same zs (kop (vs.getD i Vl.zero) Vs)) :
    zs.length = (vs.getD i Vl.zero).len.toNat ∧ 1 ≤ zs.length ∧ (uni zs = true → cv ⟨1, (vs.getD i Vl.zero).len, 0, 0, 0, zs.getD 0 0⟩ = cv (foldV news (vs.getD i Vl.zero)) ∧ same (kop (vs.getD i Vl.zero) Vs) (List.replicate (vs.getD i Vl.zero).len.toNat (zs.getD 0 0))) ∧ (uni zs = false → foldV news (vs.getD i Vl.zero) = vs.getD i Vl.zero ∧ (vs.getD i Vl.zero).op ≠ 1) := by
  have ho := okV_ops hok
  have hr := okV_opR hok
  have h0 : (vs.getD i Vl.zero).op ≠ 0 := fun c => by
    unfold ofC at hc
    rw [c] at hc
    simp at hc
  have hkl := okV_kern hok h0 (fun o => Vs.getD o.toNat []) (fun o h => by
    have hb := ho o h
    have hs := same_len (held_arg hL hH ho hc o h)
    rw [hs]
    have e : (news.getD o.toNat Vl.zero).len = (us.getD o.toNat Vl.zero).len := (congrArg Vl.len (hL.at_ o.toNat)).symm
    unfold argL
    rw [List.length_replicate, e, ← hlen o.toNat (by omega)]
    have := hlen1 o.toNat (by omega)
    omega) (vs.getD i Vl.zero).k
  rw [← kop_eq] at hkl
  have hzl : zs.length = (vs.getD i Vl.zero).len.toNat := by rw [same_len hz]; exact hkl.1
  have hk := kop_foldR hL hH ho hc hW hkb
  have hsc := spare_const hok
  generalize vs.getD i Vl.zero = v at *
  refine ⟨hzl, by omega, fun hu => ⟨?_, ?_⟩, fun hu => ?_⟩
  · have hf := same_trans hz hk
    by_cases cp : 0 < cnt v.op
    · have hb : foldB news v = true := by rw [ofC_foldB hL, hc]; simpa using cp
      have hu2 : uni (foldR news v) = true := by rw [← uni_congr hf]; exact hu
      unfold foldV
      rw [if_pos ⟨hb, hu2⟩]
      unfold cv
      simp only
      rw [same_at hf 0]
    · have h1 := cnt0 hr cp h0
      have hb : foldB news v = false := by rw [ofC_foldB hL]; simp [cp]
      unfold foldV
      rw [if_neg (fun c => by rw [hb] at c; exact absurd c.1 (by simp))]
      obtain ⟨e1, e2, e3⟩ := hsc h1
      have e4 : fb (zs.getD 0 0) = fb v.k := by
        rw [same_at hz 0, kop_eq, if_neg cp, if_neg (by omega), if_neg (by omega), h1]
        have hq := hkl.1
        rw [kop_eq, if_neg cp, if_neg (by omega), if_neg (by omega), h1] at hq
        rw [kern_const hq]
        have : 0 < v.len.toNat := by omega
        rw [List.getD_eq_getElem?_getD, List.getElem?_replicate, if_pos this]
        rfl
      unfold cv
      simp only
      rw [h1, e1, e2, e3, e4]
  · exact same_trans (same_symm hz) (uni_rep hu hzl)
  · have hf := same_trans hz hk
    by_cases cp : 0 < cnt v.op
    · unfold foldV
      rw [if_neg (fun c => by rw [← uni_congr hf, hu] at c; exact absurd c.2 (by simp))]
      exact ⟨rfl, fun c => by rw [c] at cp; exact absurd cp (by decide)⟩
    · exfalso
      have h1 := cnt0 hr cp h0
      have hq := hkl.1
      rw [kop_eq, if_neg cp, if_neg (by omega), if_neg (by omega), h1] at hq hz
      rw [kern_const hq] at hz
      rw [uni_congr hz] at hu
      unfold uni at hu
      have : 0 < v.len.toNat := by omega
      rw [List.length_replicate, List.all_eq_true.2 (fun x hx => by
        rw [List.eq_of_mem_replicate hx, List.getD_eq_getElem?_getD, List.getElem?_replicate, if_pos this]; simp)] at hu
      simp [this] at hu

set_option maxRecDepth 100000 in
set_option maxHeartbeats 4000000 in
theorem isOfConstants (w : World) (v : Vl) (g n c : Nat) (us : List Vl) (h : VA w g n us) (ho : ∀ o ∈ opsOf v, 0 ≤ o ∧ o < n) :
    Calls Tryz.prog 71 #[v.agg, .slice (some ⟨g, 0, none⟩) n c] w fun e w' => e = .returned (.bool (ofC us v)) ∧ Kept 0 0 w w' := by
  have hc3 := cnt_le v.op
  have k0 := kept_alloc 0 0 w (vbox v.op v.len v.a v.b v.c v.k)
  have HX : Hid (At (w.alloc (vbox v.op v.len v.a v.b v.c v.k)) w.heap.size 0 v) := vbox_atJ w v
  have HV : Hid _ := h.keep k0 (.inr (.inr (Nat.le_refl _)))
  have HK : Hid _ := k0
  have HO : Hid _ := ho
  have HZ : Hid (w.heap.size < (w.alloc (vbox v.op v.len v.a v.b v.c v.k)).heap.size) := by show _ < _; simp
  clear h ho k0
  obtain ⟨x0, x1, x2, x3, x4, x5⟩ := HX.out
  go_enter Tryz.func71, Tryz.ntmps71
  go_wp2_with fail
  clear x0 x1 x2 x3 x4 x5
  generalize w.alloc (vbox v.op v.len v.a v.b v.c v.k) = w1 at HX HV HK HZ ⊢
  refine Calls.mono (operandsOf w1 v) ?_
  rintro e w2 ⟨gq, rfl, hI, hgq, k2⟩
  have HX2 : Hid _ := HX.out.keep HZ.out k2 (.inr (.inr (Nat.le_refl _)))
  have HV2 : Hid _ := HV.out.keep k2 (.inr (.inr (Nat.le_refl _)))
  have HK2 : Hid _ := HK.out.trans k2
  have HI : Hid _ := hI
  clear hI hgq k2 HX HV HK
  go_wp2_with fail
  go_loop [10] (fun x => ∃ q : Nat, q ≤ cnt v.op ∧ x = .int .i64 q ∧ Hid (((opsOf v).take q).all (fun o => (us.getD o.toNat Vl.zero).op == 1) = true)) (fun x => cnt v.op - (intOf x).toNat)
  case atStart => exact ⟨0, Nat.zero_le _, rfl, rfl⟩
  case round =>
    obtain ⟨q, hq, rfl, hA⟩ := hrel
    by_cases hql : q < cnt v.op
    · have hql' : q < (opsOf v).length := by rw [opsOf_len]; exact hql
      have hob := HO.out _ (getD_memJ hql')
      obtain ⟨m, em, hm⟩ : ∃ m : Nat, (opsOf v).getD q 0 = m ∧ m < n := ⟨((opsOf v).getD q 0).toNat, by omega, by omega⟩
      obtain ⟨ga, oa, ka, ea, eq1, _, _, c1'⟩ := HI.out.at_idx (o := q) (by omega) (by omega)
      cases ea
      rw [Int.toNat_natCast, em, Nat.zero_add] at c1'
      obtain rfl : q = ka := by omega
      have c2' := (HV2.out.at_ m hm).c0
      cases t : ((us.getD m Vl.zero).op != 1)
      · have R : Hid (((opsOf v).take (q + 1)).all (fun o => (us.getD o.toNat Vl.zero).op == 1) = true) := by
          show _ = _
          rw [List.take_succ_eq_append_getElem hql', List.all_append, hA.out]
          have e2 : (opsOf v)[q] = (m : Int) := by rw [← em, List.getD_eq_getElem?_getD, List.getElem?_eq_getElem hql']; rfl
          rw [e2]
          simpa using t
        generalize (us.getD m Vl.zero).op = y at c2' t
        clear hob em hql' hA
        go_wp2
        go_round
        case rel => exact ⟨q + 1, by omega, by go_num, R⟩
        case measure => simp [intOf]; omega
      · have R : Hid (ofC us v = false) := by
          show _ = _
          unfold ofC
          rw [List.all_eq_false.2 ⟨_, getD_memJ hql', by rw [em, Int.toNat_natCast]; simpa using t⟩]
          rfl
        generalize (us.getD m Vl.zero).op = y at c2' t
        clear hob em hql' hA
        go_wp2
        go_ret
        exact ⟨by rw [R.out]; rfl, HK2.out⟩
    · obtain rfl : q = cnt v.op := by omega
      have R : Hid (ofC us v = (v.op != 0)) := by
        show _ = _
        have := hA.out
        rw [List.take_of_length_le (by rw [opsOf_len]; omega)] at this
        unfold ofC
        rw [this, Bool.true_and]
      obtain ⟨x0, x1, x2, x3, x4, x5⟩ := HX2.out
      clear hA
      go_wp2
      go_ret
      exact ⟨by rw [R.out]; rfl, HK2.out⟩

set_option maxRecDepth 100000 in
set_option maxHeartbeats 4000000 in
theorem allSame (w : World) (lo hi : Nat) (a : Option Addr) (n c : Nat) (zs : List Nat) (f : FS w lo hi a n zs) (hn : 1 ≤ n) (hn2 : n ≤ 1000) :
    Calls Tryz.prog 73 #[.slice a n c] w fun e w' => e = .returned (.bool (uni zs)) ∧ w = w' := by
  rcases f.at_ with z | ⟨g, off, rfl, _, _, _, hc⟩
  · omega
  have HF : Hid _ := hc
  have HL : Hid (zs.length = n) := f.len
  have c0 := hc 0 (by omega)
  rw [Nat.add_zero] at c0
  have HS : Hid (∀ x w, Calls Tryz.prog 89 #[.float .f64 x, .float .f64 (zs.getD 0 0)] w fun e w' => e = .returned (.bool (fb x == fb (zs.getD 0 0))) ∧ w' = w) := fun x w => (implSame x _ w).mono fun _ _ h => ⟨by rw [h.1, nat_beq], h.2⟩
  clear hc f
  go_enter Tryz.func73, Tryz.ntmps73
  go_wp2_with fail
  go_loop [7] (fun x => ∃ k : Nat, k ≤ n ∧ x = .int .i64 k ∧ Hid ((zs.take k).all (fun x => fb x == fb (zs.getD 0 0)) = true)) (fun x => n - (intOf x).toNat)
  case atStart => exact ⟨0, Nat.zero_le _, rfl, rfl⟩
  case round =>
    obtain ⟨k, hk, rfl, hA⟩ := hrel
    by_cases hlt : k < n
    · have hlt' : k < zs.length := by rw [HL.out]; exact hlt
      have c1 := HF.out k hlt
      have HI : Hid _ := HS.out (zs.getD k 0)
      cases t : (fb (zs.getD k 0) == fb (zs.getD 0 0))
      · have R : Hid (uni zs = false) := by
          show _ = _
          unfold uni
          rw [List.all_eq_false.2 ⟨zs.getD k 0, by rw [List.getD_eq_getElem?_getD, List.getElem?_eq_getElem hlt']; exact List.getElem_mem _, by rw [t]; simp⟩, Bool.and_false]
        rw [t] at HI
        generalize zs.getD k 0 = x at c1 HI
        generalize zs.getD 0 0 = x0 at c0 HI
        clear t hA HS
        go_wp2_with ((go_at_call 89; refine Calls.mono (HI.out _) ?_; rintro e w2 ⟨rfl, rfl⟩))
        go_ret
        exact ⟨by rw [R.out]; rfl, rfl⟩
      · have R : Hid ((zs.take (k + 1)).all (fun x => fb x == fb (zs.getD 0 0)) = true) := by
          show _ = _
          rw [List.take_succ_eq_append_getElem hlt', List.all_append, hA.out]
          rw [List.getD_eq_getElem?_getD, List.getElem?_eq_getElem hlt'] at t
          simpa using t
        rw [t] at HI
        generalize zs.getD k 0 = x at c1 HI
        clear t hA HS
        generalize zs.getD 0 0 = x0 at c0 HI R
        go_wp2_with ((go_at_call 89; refine Calls.mono (HI.out _) ?_; rintro e w2 ⟨rfl, rfl⟩))
        go_round
        case rel => exact ⟨k + 1, by omega, by go_num, R⟩
        case measure => simp [intOf]; omega
    · obtain rfl : k = n := by omega
      have R : Hid (uni zs = true) := by
        show _ = _
        have := hA.out
        rw [List.take_of_length_le (by rw [HL.out]; omega)] at this
        unfold uni
        rw [this, HL.out]
        simp
        omega
      clear hA
      go_wp2
      go_ret
      exact ⟨by rw [R.out]; rfl, rfl⟩
end Go.Proofs.YtcphabjekfihnabGreat
