import Derived.Test.YtiiimofkkahobaaDoorP01
import Derived.Deep.QuietTactic
import Derived.BigQuiet
import Derived.Test.YtiiimofkkahobaaDoorP11
import Derived.Deep.DeepCutAuto
import Derived.Lib.ConvBytes
namespace Go.Proofs.YtiiimofkkahobaaDoor
open Go.RowKit Flt
attribute [local go_sem] alloc_drewN setCell_drewN run_store_float

/-- A slice of bytes that is read: its elements. -/
structure YS (w : World) (a : Option Addr) (n : Nat) (xs : List Int) : Prop where
  len : xs.length = n
  lt : ∀ x ∈ xs, 0 ≤ x ∧ x < 256
  at_ : n = 0 ∨ ∃ g off, a = some ⟨g, off, none⟩ ∧ g < w.heap.size ∧ ∀ k, k < n → w.cell? ⟨g, off + k, none⟩ = some (.int .u8 (xs.getD k 0))
theorem YS.keep {w w' : World} {a : Option Addr} {n : Nat} {xs : List Int} (f : YS w a n xs) (k : Kept 0 0 w w') : YS w' a n xs :=
  ⟨f.len, f.lt, by
    rcases f.at_ with h0 | ⟨g, off, e, h3, h4⟩
    · exact .inl h0
    · exact .inr ⟨g, off, e, Nat.lt_of_lt_of_le h3 k.size, fun j hj => by rw [k.cell (p := ⟨g, off + j, none⟩) h3 (by omega)]; exact h4 j hj⟩⟩
theorem byte_lt {xs : List Int} (h : ∀ x ∈ xs, 0 ≤ x ∧ x < 256) (k : Nat) : 0 ≤ xs.getD k 0 ∧ xs.getD k 0 < 256 := by
  rw [List.getD_eq_getElem?_getD]
  by_cases hk : k < xs.length
  · rw [List.getElem?_eq_getElem hk]; exact h _ (List.getElem_mem _)
  · rw [List.getElem?_eq_none (by omega)]; exact ⟨by decide, by decide⟩

/-- A whole block of bytes of its own. -/
def YR (w : World) (g : Nat) (xs : List Int) : Prop := w.heap[g]? = some (.cells (xs.map (Value.int .u8)).toArray 5 (0, 0))
theorem YR.lt {w : World} {g : Nat} {xs : List Int} (h : YR w g xs) : g < w.heap.size := by
  unfold YR at h
  rcases Nat.lt_or_ge g w.heap.size with c | c
  · exact c
  · rw [Array.getElem?_eq_none c] at h; cases h
theorem YR.cell {w : World} {g : Nat} {xs : List Int} (h : YR w g xs) (k : Nat) (hk : k < xs.length) : w.cell? ⟨g, k, none⟩ = some (.int .u8 (xs.getD k 0)) := by
  rw [cell_of_row w g k _ _ _ h]
  simp [hk, List.getD_eq_getElem?_getD]
theorem YR.free {w : World} {g : Nat} {xs : List Int} (h : YR w g xs) (k : Nat) : w.frozen? ⟨g, k, none⟩ = false := frozen_of_row w g k _ _ h
theorem YR.keep {w w' : World} {g : Nat} {xs : List Int} (f : YR w g xs) (k : Kept 0 0 w w') : YR w' g xs := by
  unfold YR
  rw [k.block g f.lt (by omega)]
  exact f
theorem YR.set {w : World} {g : Nat} {xs : List Int} (h : YR w g xs) (k : Nat) (x : Int) : YR (w.setCell ⟨g, k, none⟩ (.int .u8 x)) g (xs.set k x) := by
  unfold YR at h ⊢
  rw [heap_setCell_same w g k _ _ _ h]
  simp [List.map_set]
theorem YR.ys {w : World} {g : Nat} {xs : List Int} (h : YR w g xs) (hl : ∀ x ∈ xs, 0 ≤ x ∧ x < 256) : YS w (some ⟨g, 0, none⟩) xs.length xs :=
  ⟨rfl, hl, .inr ⟨g, 0, rfl, h.lt, fun k hk => by rw [Nat.zero_add]; exact h.cell k hk⟩⟩
theorem YR.made (w : World) (n : Nat) : YR (w.alloc (.cells (madeCells #[.int .u8 0] n) 5)) w.heap.size (List.replicate n 0) := by
  unfold YR
  rw [heap_alloc_new]
  have : (madeCells #[.int .u8 0] n) = (List.map (Value.int .u8) (List.replicate n 0)).toArray := by
    apply Array.toList_inj.1
    rw [toList_madeCells_one]
    simp
  rw [this]
theorem infoY : (Tryd.prog.info? 5).map (fun i => (i.zero, i.size, i.bytes)) = some (some (.int .u8 0), 1, 1) := by kernel_rfl
theorem set_takeY (xs ys : List Int) (k : Nat) (hk : k < xs.length) (hl : ys.length = xs.length) :
    (xs.take k ++ ys.drop k).set k (xs.getD k 0) = xs.take (k + 1) ++ ys.drop (k + 1) := by
  apply List.ext_getElem?
  intro i
  simp only [List.getElem?_set, List.length_append, List.length_take, List.length_drop, List.getElem?_append, List.getElem?_take, List.getElem?_drop, List.getD_eq_getElem?_getD]
  rcases Nat.lt_trichotomy i k with h | h | h
  · rw [if_neg (by omega), if_pos (by omega), if_pos (by omega), if_pos (by omega), if_pos (by omega)]
  · subst h
    rw [if_pos rfl, if_pos (by omega), if_pos (by omega), if_pos (by omega), List.getElem?_eq_getElem hk]; rfl
  · rw [if_neg (by omega), if_neg (by omega), if_neg (by omega)]
    congr 1; omega

theorem make_y (n : Nat) (w : World) (hn : n ≤ 1099511627776) :
    (Instr.makeSlice 27 (.int .i64 (n : Int)) (.int .i64 (n : Int))).run Tryd.prog w = .ok (.slice (some ⟨w.heap.size, 0, none⟩) n n) (w.alloc (.cells (madeCells #[.int .u8 0] n) 5)) := by
  obtain ⟨i, hi, hz0, hz1, hz2⟩ := info_parts infoY
  have := run_make (P := Tryd.prog) w 27 5 i (.int .u8 0) Tryd.underlying27 hi hz0 .i64 .i64 n n (by omega) (by omega) (by rw [hz2]; omega) (by omega)
  rw [hz1, Nat.mul_one, Int.toNat_natCast] at this
  exact this

set_option maxRecDepth 100000 in
set_option maxHeartbeats 1000000 in
theorem eqY_zero (w : World) (a b : Option Addr) (ca cb : Nat) :
    Calls Tryd.prog 8 #[.slice a 0 ca, .slice b 0 cb] w fun e w' => e = .returned (.bool true) ∧ w' = w := by
  go_enter Tryd.func8, Tryd.ntmps8
  go_wp2_with fail
  refine wp_loop_rounds 1 ?_
  rw [rounds_succ]
  go_wp2
  go_ret
  exact ⟨rfl, rfl⟩
set_option maxRecDepth 100000 in
set_option maxHeartbeats 1000000 in
theorem eqY_pos (w : World) (g1 o1 g2 o2 n ca cb : Nat) (xs : List Int) (hn : n ≤ 1099511627776)
    (hx : ∀ k, k < n → w.cell? ⟨g1, o1 + k, none⟩ = some (.int .u8 (xs.getD k 0))) (hy : ∀ k, k < n → w.cell? ⟨g2, o2 + k, none⟩ = some (.int .u8 (xs.getD k 0))) :
    Calls Tryd.prog 8 #[.slice (some ⟨g1, o1, none⟩) n ca, .slice (some ⟨g2, o2, none⟩) n cb] w fun e w' => e = .returned (.bool true) ∧ Drawn w w' := by
  have HX : Hid (∀ k, k < n → w.cell? ⟨g1, o1 + k, none⟩ = some (.int .u8 (xs.getD k 0))) := hx
  have HY : Hid (∀ k, k < n → w.cell? ⟨g2, o2 + k, none⟩ = some (.int .u8 (xs.getD k 0))) := hy
  clear hx hy
  go_enter Tryd.func8, Tryd.ntmps8
  go_wp2_with fail
  go_loopw [5] (fun i W => ∃ k : Nat, k ≤ n ∧ i = .int .i64 k ∧ Drawn w W) (fun i _ => n - (intOf i).toNat)
  case atStart => exact ⟨0, Nat.zero_le _, rfl, Drawn.refl _⟩
  case round =>
    obtain ⟨k, hk, rfl, HW⟩ := hrel
    by_cases hlt : k < n
    · have c1 : wr.cell? ⟨g1, o1 + k, none⟩ = some (.int .u8 (xs.getD k 0)) := by rw [HW.cell]; exact HX.out k hlt
      have c2 : wr.cell? ⟨g2, o2 + k, none⟩ = some (.int .u8 (xs.getD k 0)) := by rw [HW.cell]; exact HY.out k hlt
      have e1 : (xs.getD k 0 != xs.getD k 0) = false := by simp
      generalize xs.getD k 0 = x at c1 c2 e1
      go_wp2_with fail
      try go_quiet (fail)
      try go_wp2
      go_roundw
      case rel => exact ⟨k + 1, by omega, by go_num, by first | exact HW | exact HW.more _⟩
      case measure => simp [intOf]; omega
    · go_wp2
      go_ret
      exact ⟨rfl, HW⟩
/-- eqByteS of the same bytes. -/
theorem eqY (w : World) (a b : Option Addr) (n ca cb : Nat) (xs : List Int) (f : YS w a n xs) (g : YS w b n xs) (hn : n ≤ 1099511627776) :
    Calls Tryd.prog 8 #[.slice a n ca, .slice b n cb] w fun e w' => e = .returned (.bool true) ∧ Drawn w w' := by
  rcases f.at_ with rfl | ⟨g1, o1, rfl, a3, a4⟩
  · exact (eqY_zero w a b ca cb).mono fun _ _ h => ⟨h.1, 0, h.2⟩
  · rcases g.at_ with rfl | ⟨g2, o2, rfl, b3, b4⟩
    · exact (eqY_zero w _ b ca cb).mono fun _ _ h => ⟨h.1, 0, h.2⟩
    · exact eqY_pos w g1 o1 g2 o2 n ca cb xs hn a4 b4
end Go.Proofs.YtiiimofkkahobaaDoor

namespace Go.Proofs.YtiiimofkkahobaaDoor
open Go.RowKit Flt
attribute [local go_sem] alloc_drewN setCell_drewN run_store_float
/-- Every number of a graph is small. -/
structure SmG (ins : List Int) (vs : List Vl) (outs : List Int) : Prop where
  i : ∀ k, k < ins.length → Sml (ins.getD k 0)
  o : ∀ k, k < outs.length → Sml (outs.getD k 0)
  op : ∀ k, k < vs.length → 0 ≤ (vs.getD k Vl.zero).op ∧ (vs.getD k Vl.zero).op ≤ 13
  len : ∀ k, k < vs.length → Sml (vs.getD k Vl.zero).len
  a : ∀ k, k < vs.length → Sml (vs.getD k Vl.zero).a
  c : ∀ k, k < vs.length → Sml (vs.getD k Vl.zero).c
  f : ∀ k, k < vs.length → ∀ q, q < 3 → Sml (fld (vs.getD k Vl.zero) q)
  k : ∀ k, k < vs.length → (vs.getD k Vl.zero).k < 18446744073709551616
theorem inL_len {n : Int} (h : Sml n) : (inL n).length ≤ 100010 := by
  have := decI_len h
  simp [inL]
  omega
theorem outL_len {n : Int} (h : Sml n) : (outL n).length ≤ 100010 := by
  have := decI_len h
  simp [outL]
  omega
theorem oprT_len {v : Vl} (h : ∀ q, q < 3 → Sml (fld v q)) : ∀ k, k ≤ 3 → (oprT v k).length ≤ 100010 * k
  | 0, _ => by simp [oprT]
  | k + 1, hk => by
    have := oprT_len h k (by omega)
    have := decI_len (h k (by omega))
    simp only [oprT, List.length_append, List.length_cons, List.length_nil]
    omega
theorem hexN_len : ∀ v j, (hexN v j).length = j := by
  intro v j
  induction j generalizing v with
  | zero => rfl
  | succ j ih => rw [hexN, List.length_append, ih]; rfl
theorem li_ite {p : Prop} [Decidable p] {a b : List UInt8} (ha : a.length ≤ 5) (hb : b.length ≤ 5) : (if p then a else b).length ≤ 5 := by split <;> assumption
theorem opW_len (op : Int) : (opW op).length ≤ 5 := by
  unfold opW
  repeat' (apply li_ite)
  all_goals decide
theorem mid0_len {v : Vl} (h : Sml v.a) : (mid0 v).length ≤ 100010 := by
  have := decI_len h
  unfold mid0
  split <;> simp <;> omega
theorem mid1_len (v : Vl) : (mid1 v).length ≤ 20 := by
  unfold mid1
  split <;> simp [hexN_len]
theorem mid2_len {v : Vl} (h : Sml v.c) : (mid2 v).length ≤ 100010 := by
  have := decI_len h
  unfold mid2
  split <;> simp <;> omega
theorem valL_len {i : Nat} {v : Vl} (hi : i ≤ 2000) (ha : Sml v.a) (hc : Sml v.c) (hl : Sml v.len) (hf : ∀ q, q < 3 → Sml (fld v q)) : (valL i v).length ≤ 1000000 := by
  have h1 := dec10_len i
  have h2 := opW_len v.op
  have h3 := mid0_len ha
  have h4 := mid1_len v
  have h5 := oprT_len hf (cnt v.op) (cnt_le _)
  have h6 := mid2_len hc
  have h7 := decI_len hl
  have h8 := cnt_le v.op
  simp only [valL, List.length_append, List.length_cons, List.length_nil]
  omega
theorem valsT_len {vs : List Vl} (h : ∀ k, k < vs.length → (valL k (vs.getD k Vl.zero)).length ≤ 1000000) : ∀ k, k ≤ vs.length → (valsT vs k).length ≤ 1000000 * k
  | 0, _ => by simp [valsT]
  | k + 1, hk => by
    have := valsT_len h k (by omega)
    have := h k (by omega)
    rw [valsT, List.length_append]
    omega
theorem ops0T {op : Int} (h0 : 0 ≤ op) (h1 : op ≤ 13) : ops1 op = cnt op := by
  rcases (by omega : op = 0 ∨ op = 1 ∨ op = 2 ∨ op = 3 ∨ op = 4 ∨ op = 5 ∨ op = 6 ∨ op = 7 ∨ op = 8 ∨ op = 9 ∨ op = 10 ∨ op = 11 ∨ op = 12 ∨ op = 13) with rfl | rfl | rfl | rfl | rfl | rfl | rfl | rfl | rfl | rfl | rfl | rfl | rfl | rfl <;> rfl
theorem fb_lt64 (x : Nat) (h : x < 18446744073709551616) : fb x < 18446744073709551616 := by
  unfold fb
  split
  · decide
  · exact h
theorem outsT_len {outs : List Int} (h : ∀ k, k < outs.length → Sml (outs.getD k 0)) : ∀ k, k ≤ outs.length → (outsT outs k).length ≤ 100010 * k
  | 0, _ => by simp [outsT]
  | k + 1, hk => by
    have := outsT_len h k (by omega)
    have := outL_len (h k (by omega))
    rw [outsT, List.length_append]
    omega
def bytesOf (l : List UInt8) : List Int := l.map (fun b => (b.toNat : Int))
theorem kept_bytes (w : World) (e : TypeId) (s : ByteArray) : Kept 0 0 w (Lib.bytesWorld w e s) :=
  ⟨rfl, rfl, rfl, by rw [Lib.bytesWorld_size]; omega, fun k hk _ => Lib.bytesWorld_at_old w e s k hk⟩
theorem ys_bytes (w : World) (e : TypeId) (s : ByteArray) : YS (Lib.bytesWorld w e s) (some ⟨w.heap.size, 0, none⟩) s.size (s.data.toList.map (fun b => (b.toNat : Int))) where
  len := by rw [List.length_map, Array.length_toList]; rfl
  lt := fun x hx => by
    obtain ⟨b, _, rfl⟩ := List.mem_map.1 hx
    have := b.toNat_lt
    omega
  at_ := .inr ⟨w.heap.size, 0, rfl, by rw [Lib.bytesWorld_size]; omega, fun k hk => by
    rw [Nat.zero_add, Lib.bytesWorld_cell w e s k hk]
    have hk2 : k < s.data.toList.length := by rw [Array.length_toList]; exact hk
    rw [List.getD_eq_getElem?_getD, List.getD_eq_getElem?_getD, List.getElem?_map, List.getElem?_eq_getElem hk2]
    rfl⟩
theorem vbox_atT (w : World) (v : Vl) : At (w.alloc (vbox v.op v.len v.a v.b v.c v.k)) w.heap.size 0 v := by
  constructor <;> simp
theorem insT_len {ins : List Int} (h : ∀ k, k < ins.length → Sml (ins.getD k 0)) : ∀ k, k ≤ ins.length → (insT ins k).length ≤ 100010 * k
  | 0, _ => by simp [insT]
  | k + 1, hk => by
    have := insT_len h k (by omega)
    have := inL_len (h k (by omega))
    rw [insT, List.length_append]
    omega
set_option maxRecDepth 1000000 in
set_option maxHeartbeats 8000000 in
theorem specText_in (w : World) (lo g1 g2 g3 n1 c1 n2 c2 n3 c3 : Nat) (ins : List Int) (vs : List Vl) (outs : List Int) (f : GO w lo g1 g2 g3 n2 ins vs outs) (e1 : ins.length = n1) (e3 : outs.length = n3) (hlt : ∀ v ∈ vs, v.k < 18446744073709551616) (h : okG ins vs outs = true) (hS : SmG ins vs outs) (l1 : n1 ≤ 20) (l2 : n2 ≤ 2000) (l3 : n3 ≤ 50) :
    Calls Tryd.prog 5 #[gagg (some ⟨g1, 0, none⟩) n1 c1 (some ⟨g2, 0, none⟩) n2 c2 (some ⟨g3, 0, none⟩) n3 c3] w fun e w' => ∃ g n cap, e = .returned (.slice (some ⟨g, 0, none⟩) n cap) ∧ YS w' (some ⟨g, 0, none⟩) n (bytesOf (textM ins vs outs)) ∧ Kept 0 0 w w' := by
  have hgs := f.gs hlt
  rw [e1, e3] at hgs
  have e2 : vs.length = n2 := f.v.len
  have hK := kept_alloc 0 0 w (gbox (some ⟨g1, 0, none⟩) n1 c1 (some ⟨g2, 0, none⟩) n2 c2 (some ⟨g3, 0, none⟩) n3 c3)
  have HX : Hid _ := specValid _ (some ⟨g1, 0, none⟩) (some ⟨g2, 0, none⟩) (some ⟨g3, 0, none⟩) n1 c1 n2 c2 n3 c3 ins vs outs (hgs.keep hK)
  rw [h] at HX
  have HK : Hid _ := hK
  have HB : Hid _ := g0_start w (.slice (some ⟨g1, 0, none⟩) n1 c1) (.slice (some ⟨g2, 0, none⟩) n2 c2) (.slice (some ⟨g3, 0, none⟩) n3 c3)
  have HF : Hid (GO (w.alloc (gbox (some ⟨g1, 0, none⟩) n1 c1 (some ⟨g2, 0, none⟩) n2 c2 (some ⟨g3, 0, none⟩) n3 c3)) lo g1 g2 g3 n2 ins vs outs) := ⟨IR.keep f.i hK (.inr (.inr (Nat.le_refl _))), VA.keep f.v hK (.inr (.inr (Nat.le_refl _))), IR.keep f.o hK (.inr (.inr (Nat.le_refl _))), f.l1, f.l2, f.l3⟩
  have HE : Hid (ins.length = n1 ∧ outs.length = n3 ∧ vs.length = n2) := ⟨e1, e3, e2⟩
  have HS : Hid _ := hS
  clear hK h f hgs hlt e2 e1 e3 hS
  go_enter Tryd.func5, Tryd.ntmps5
  go_wp2_with fail
  generalize w.alloc (gbox (some ⟨g1, 0, none⟩) n1 c1 (some ⟨g2, 0, none⟩) n2 c2 (some ⟨g3, 0, none⟩) n3 c3) = wB at HX HK HB HF ⊢
  refine Calls.mono HX.out ?_
  rintro e w2 ⟨rfl, k2⟩
  have HK2 : Hid (Kept 0 0 wB w2) := k2
  clear k2 HX
  go_wp2_with fail
  go_loopw [3, 4] (fun sv kv W => ∃ (k : Nat) (s : ByteArray), k ≤ n1 ∧ sv = .string s ∧ kv = .int .i64 (k : Int) ∧ Hid (s = ⟨(insT ins k).toArray⟩ ∧ Kept 0 0 wB W)) (fun _ kv _ => n1 - (intOf kv).toNat)
  case atStart => exact ⟨0, _, Nat.zero_le _, rfl, rfl, ⟨rfl, HK2.out⟩⟩
  case round =>
    obtain ⟨k, st, hk, rfl, rfl, hR⟩ := hrel
    clear HK2
    obtain ⟨_, q0, q1, q2⟩ := HB.out.keep hR.out.2
    have hsz : st.size ≤ 100010 * k := by
      rw [hR.out.1, str_size]
      exact insT_len HS.out.i k (by have := HE.out.1; omega)
    by_cases hlt : k < n1
    · have ci := IR.cell (IR.keep HF.out.i hR.out.2 (.inr (.inr (Nat.le_refl _)))) k (by have := HE.out.1; omega)
      have hsm := HS.out.i k (by have := HE.out.1; omega)
      have HD : Hid _ := l6decI (ins.getD k 0) hsm
      have hdl := decI_len hsm
      have HNX : Hid (insT ins (k + 1) = insT ins k ++ inL (ins.getD k 0)) := rfl
      have HIN : Hid (inL (ins.getD k 0) = [105, 110, 32] ++ decI (ins.getD k 0) ++ [10]) := rfl
      generalize ins.getD k 0 = n at ci HD HNX HIN hdl
      obtain ⟨sd, hsd⟩ : ∃ sd : ByteArray, sd = ⟨(decI n).toArray⟩ := ⟨_, rfl⟩
      have hsdz : sd.size ≤ 100001 := by rw [hsd, str_size]; exact hdl
      unfold strL at HD
      rw [← hsd] at HD
      have R1 : Hid ((st ++ ((({ data := #[105, 110, 32] } : ByteArray) ++ sd) ++ ({ data := #[10] } : ByteArray))) = ⟨(insT ins (k + 1)).toArray⟩) := by
        show _ = _
        rw [hR.out.1, hsd, HNX.out, HIN.out, ← ba_app, ← ba_app, ← ba_app]
      have k0 : (0 : Int) ≤ (k : Int) := by omega
      have k1 : (k : Int) < (n1 : Int) := by omega
      have hkw : IntKind.i64.wrap ((k : Int) + 1) = (k : Int) + 1 := by rw [IntKind.wrap_i64]; omega
      clear hsd hsm hdl HNX HIN
      go_wp2_with fail
      refine Calls.mono (HD.out wr) ?_
      rintro e w5 ⟨rfl, rfl⟩
      have z1 : ¬ (9223372036854775807 < ({ data := #[105, 110, 32] } : ByteArray).size + sd.size) := by
        rw [show ({ data := #[105, 110, 32] } : ByteArray).size = 3 from rfl]; omega
      go_wp2_with fail
      go_roundw
      case rel => exact ⟨k + 1, _, by omega, rfl, by go_num, ⟨R1.out, hR.out.2⟩⟩
      case measure => simp [intOf]; omega
    · obtain rfl : k = n1 := by omega
      have hkk : ¬ ((k : Int) < (k : Int)) := by omega
      have HU : Hid (st = ⟨(insT ins k ++ valsT vs 0).toArray⟩) := by
        show _ = _
        rw [hR.out.1, valsT, List.append_nil]
      have HUz : Hid ((insT ins k).length ≤ 2000200) := by
        have := insT_len HS.out.i k (by have := HE.out.1; omega)
        show _ ≤ _
        omega
      have HK3 : Hid (Kept 0 0 wB wr) := hR.out.2
      clear hR hsz
      go_wp2_with fail
      clear q0 q1 q2
      go_loopw [3, 5] (fun sv kv W => ∃ (i : Nat) (s : ByteArray), i ≤ n2 ∧ sv = .string s ∧ kv = .int .i64 (i : Int) ∧ Hid (s = ⟨(insT ins k ++ valsT vs i).toArray⟩ ∧ Kept 0 0 wB W)) (fun _ kv _ => n2 - (intOf kv).toNat)
      case atStart => exact ⟨0, _, Nat.zero_le _, rfl, rfl, ⟨HU.out, HK3.out⟩⟩
      case round =>
        obtain ⟨i, st, hi, rfl, rfl, hR⟩ := hrel
        clear HU HK3
        obtain ⟨_, q0, q1, q2⟩ := HB.out.keep hR.out.2
        have hsz : st.size ≤ 3000000000 := by
          rw [hR.out.1, str_size, List.length_append]
          have := HUz.out
          have := valsT_len (vs := vs) (fun k hk => valL_len (by have := HE.out.2.2; omega) (HS.out.a k hk) (HS.out.c k hk) (HS.out.len k hk) (HS.out.f k hk)) i (by have := HE.out.2.2; omega)
          omega
        by_cases hlt : i < n2
        · have hil : i < vs.length := by have := HE.out.2.2; omega
          have hat := (VA.keep HF.out.v hR.out.2 (.inr (.inr (Nat.le_refl _)))).at_ i hlt
          have HOP : Hid _ := HS.out.op i hil
          have HA : Hid (Sml (vs.getD i Vl.zero).a) := HS.out.a i hil
          have HC : Hid (Sml (vs.getD i Vl.zero).c) := HS.out.c i hil
          have HLn : Hid (Sml (vs.getD i Vl.zero).len) := HS.out.len i hil
          have HFl : Hid _ := HS.out.f i hil
          have HKk : Hid _ := HS.out.k i hil
          have HNX : Hid (valsT vs (i + 1) = valsT vs i ++ valL i (vs.getD i Vl.zero)) := rfl
          generalize vs.getD i Vl.zero = v at hat HOP HA HC HLn HFl HKk HNX
          obtain ⟨o, ln, va, vb, vc, vk⟩ := v
          simp only at HOP HA HC HLn HKk
          obtain ⟨z0, z1, z2, z3, z4, z5⟩ := hat
          simp only at z0 z1 z2 z3 z4 z5
          have i0 : (0 : Int) ≤ (i : Int) := by omega
          have i1 : (i : Int) < (n2 : Int) := by omega
          have hiw : IntKind.i64.wrap ((i : Int) + 1) = (i : Int) + 1 := by rw [IntKind.wrap_i64]; omega
          have HAT : Hid (At (wr.alloc (vbox o ln va vb vc vk)) wr.heap.size 0 ⟨o, ln, va, vb, vc, vk⟩) := vbox_atT wr ⟨o, ln, va, vb, vc, vk⟩
          have HKA : Hid (Kept 0 0 wB (wr.alloc (vbox o ln va vb vc vk))) := hR.out.2.trans (kept_alloc 0 0 wr _)
          have HXL : Hid (wr.heap.size < (wr.alloc (vbox o ln va vb vc vk)).heap.size) := by show _ < _; simp
          have HST : Hid (st = ⟨(insT ins k ++ valsT vs i).toArray⟩) := hR.out.1
          clear hR hil
          go_upto_region 12 with fail
          clear z0 z1 z2 z3 z4 z5 q0 q1 q2
          generalize wr.alloc (vbox o ln va vb vc vk) = wv at HAT HKA HXL ⊢
          generalize wr.heap.size = V at HAT HXL ⊢
          have HD : Hid (∀ W : World, Calls Tryd.prog 16 #[.int .i64 (i : Int)] W fun e w' => e = .returned (strL (dec10 i)) ∧ w' = W) := l6dec i i (Nat.le_refl _) (by omega)
          have HW : Hid _ := l6word o HOP.out.1 HOP.out.2
          have HVL : Hid (valL i ⟨o, ln, va, vb, vc, vk⟩ = (([118] ++ dec10 i ++ [32, 61, 32]) ++ opW o) ++ mid0 ⟨o, ln, va, vb, vc, vk⟩ ++ mid1 ⟨o, ln, va, vb, vc, vk⟩ ++ oprT ⟨o, ln, va, vb, vc, vk⟩ (cnt o) ++ mid2 ⟨o, ln, va, vb, vc, vk⟩ ++ ([32, 58, 32] ++ decI ln ++ [10])) := rfl
          obtain ⟨U, hU⟩ : ∃ U : List UInt8, U = insT ins k ++ valsT vs i := ⟨_, rfl⟩
          have HUU : Hid (U = insT ins k ++ valsT vs i) := hU
          rw [← hU] at HST
          clear hU
          have HUl : Hid (U.length ≤ 3000000000) := by
            have h := hsz
            rw [HST.out, str_size] at h
            exact h
          go_cut [3] (fun sv wx => ∃ s1 : ByteArray, sv = .string s1 ∧ s1.size ≤ 3000010000 ∧ Hid (s1 = ⟨(U ++ (([118] ++ dec10 i ++ [32, 61, 32]) ++ opW o)).toArray⟩ ∧ Kept 0 0 wv wx))
          case first =>
            have v0 := HAT.out.c0
            obtain ⟨sd, hsd⟩ : ∃ sd : ByteArray, sd = ⟨(dec10 i).toArray⟩ := ⟨_, rfl⟩
            obtain ⟨sw, hsw⟩ : ∃ sw : ByteArray, sw = ⟨(opW o).toArray⟩ := ⟨_, rfl⟩
            have hsdz : sd.size ≤ 2001 := by rw [hsd, str_size]; have := dec10_len i; omega
            have hswz : sw.size ≤ 5 := by rw [hsw, str_size]; exact opW_len o
            unfold strL at HD HW
            rw [← hsd] at HD
            rw [← hsw] at HW
            have R1 : Hid ((st ++ (((({ data := #[118] } : ByteArray) ++ sd) ++ ({ data := #[32, 61, 32] } : ByteArray)) ++ sw)) = ⟨(U ++ (([118] ++ dec10 i ++ [32, 61, 32]) ++ opW o)).toArray⟩) := by
              show _ = _
              rw [HST.out, hsd, hsw, ← ba_app, ← ba_app, ← ba_app, ← ba_app]
            clear hsd hsw
            go_region_with (first
              | (go_at_call 16; refine Calls.mono (HD.out _) ?_; rintro e wd ⟨rfl, rfl⟩)
              | (go_at_call 17; refine Calls.mono (HW.out _) ?_; rintro e ww ⟨rfl, kw⟩))
            all_goals
              go_wp2_with fail
              go_meet
              exact ⟨_, rfl, by rw [R1.out, str_size]; simp only [List.length_append, List.length_cons, List.length_nil]; have := HUl.out; have := dec10_len i; have := opW_len o; omega, ⟨R1.out, Kept.trans (show Kept 0 0 wv wv.drew from kept_drewN 0 0 wv 1) kw⟩⟩
          case rest =>
            obtain ⟨s1, rfl, hs1, hC1⟩ := hcut
            clear HD HW hsz HST
            have HA1 : Hid _ := HAT.out.keep HXL.out hC1.out.2 (.inr (.inr (Nat.le_refl _)))
            have v0 := HA1.out.c0
            have v2 := HA1.out.c2
            have v5 := HA1.out.c5
            simp only at v0 v2 v5
            rcases (by omega : o = 0 ∨ o = 1 ∨ (o ≠ 0 ∧ o ≠ 1)) with ho | ho | ⟨ho, ho'⟩
            · subst ho
              obtain ⟨sd, hsd⟩ : ∃ sd : ByteArray, sd = ⟨(decI va).toArray⟩ := ⟨_, rfl⟩
              have hsdz : sd.size ≤ 100001 := by rw [hsd, str_size]; exact decI_len HA.out
              have HD : Hid _ := l6decI va HA.out
              unfold strL at HD
              rw [← hsd] at HD
              have R2 : Hid (s1 ++ (({ data := #[32] } : ByteArray) ++ sd) = ⟨(U ++ (([118] ++ dec10 i ++ [32, 61, 32]) ++ opW 0) ++ mid0 ⟨0, ln, va, vb, vc, vk⟩ ++ mid1 ⟨0, ln, va, vb, vc, vk⟩).toArray⟩) := by
                show _ = _
                rw [hC1.out.1, hsd, show mid0 ⟨0, ln, va, vb, vc, vk⟩ = [32] ++ decI va from rfl, show mid1 ⟨0, ln, va, vb, vc, vk⟩ = [] from rfl, List.append_nil, ba_app, ba_app]
              have HKy : Hid (Kept 0 0 wv wc) := hC1.out.2
              clear hsd
              go_wp2_with fail
              refine Calls.mono (HD.out wc) ?_
              rintro e w5 ⟨rfl, rfl⟩
              go_upto_region 17 with fail
              generalize s1 ++ (({ data := #[32] } : ByteArray) ++ sd) = s2 at R2 ⊢
              clear HD hsdz
              have hs2 : s2.size ≤ 3000200000 := by
                rw [R2.out, str_size]
                have h1 := HUl.out
                have h2 := dec10_len i
                have h3 := opW_len 0
                have h4 := mid0_len (v := ⟨0, ln, va, vb, vc, vk⟩) HA.out
                have h5 := mid1_len ⟨0, ln, va, vb, vc, vk⟩
                simp only [List.length_append, List.length_cons, List.length_nil]
                omega
              have HL1 : Hid (∀ W : World, Calls Tryd.prog 20 #[.int .i64 0] W fun e w' => e = .returned (.int .i64 (cnt 0 : Nat)) ∧ W = w') := fun W => by
                have := l1operands_r 0 W HOP.out.1 HOP.out.2
                rw [ops0T HOP.out.1 HOP.out.2] at this
                exact this
              have hc3 := cnt_le 0
              clear hC1 v0 v2 v5 hs1
              go_wp2_with fail
              go_loopw [3, 7] (fun sv kv W => ∃ (q : Nat) (s : ByteArray), q ≤ cnt 0 ∧ sv = .string s ∧ kv = .int .i64 (q : Int) ∧ s.size ≤ 3000200000 + 100010 * q ∧ Hid (s = ⟨(U ++ (([118] ++ dec10 i ++ [32, 61, 32]) ++ opW 0) ++ mid0 ⟨0, ln, va, vb, vc, vk⟩ ++ mid1 ⟨0, ln, va, vb, vc, vk⟩ ++ oprT ⟨0, ln, va, vb, vc, vk⟩ q).toArray⟩ ∧ Kept 0 0 wv W)) (fun _ kv _ => cnt 0 - (intOf kv).toNat)
              case atStart => exact ⟨0, _, Nat.zero_le _, rfl, rfl, by omega, ⟨by rw [R2.out, oprT, List.append_nil], HKy.out⟩⟩
              case round =>
                obtain ⟨q, s3, hq, rfl, rfl, hs3, hR⟩ := hrel
                clear R2 HKy hs2
                have HA3 : Hid _ := HAT.out.keep HXL.out hR.out.2 (.inr (.inr (Nat.le_refl _)))
                obtain ⟨y0, y1, y2, y3, y4, y5⟩ := HA3.out
                simp only at y0 y1 y2 y3 y4 y5
                by_cases hlq : q < cnt 0
                · have hsm := HFl.out q (by omega)
                  obtain ⟨sd, hsd⟩ : ∃ sd : ByteArray, sd = ⟨(decI (fld ⟨0, ln, va, vb, vc, vk⟩ q)).toArray⟩ := ⟨_, rfl⟩
                  have hsdz : sd.size ≤ 100001 := by rw [hsd, str_size]; exact decI_len hsm
                  have HD : Hid _ := l6decI (fld ⟨0, ln, va, vb, vc, vk⟩ q) hsm
                  unfold strL at HD
                  rw [← hsd] at HD
                  have HFD : Hid (∀ W, Calls Tryd.prog 21 #[(Vl.mk 0 ln va vb vc vk).agg, .int .i64 (q : Int)] W fun e w' => e = .returned (.int .i64 (fld ⟨0, ln, va, vb, vc, vk⟩ q)) ∧ Kept 0 0 W w') := fun W => l1field W _ q (by omega)
                  have R4 : Hid (s3 ++ (({ data := #[32, 118] } : ByteArray) ++ sd) = ⟨(U ++ (([118] ++ dec10 i ++ [32, 61, 32]) ++ opW 0) ++ mid0 ⟨0, ln, va, vb, vc, vk⟩ ++ mid1 ⟨0, ln, va, vb, vc, vk⟩ ++ oprT ⟨0, ln, va, vb, vc, vk⟩ (q + 1)).toArray⟩) := by
                    show _ = _
                    rw [hR.out.1, hsd, oprT, ba_app, ba_app, List.append_assoc]
                  have hq2 : (q : Int) < (cnt 0 : Int) := by omega
                  have hqw : IntKind.i64.wrap ((q : Int) + 1) = (q : Int) + 1 := by rw [IntKind.wrap_i64]; omega
                  have HKR : Hid (Kept 0 0 wv wr) := hR.out.2
                  generalize fld ⟨0, ln, va, vb, vc, vk⟩ q = fq at HD HFD
                  clear hsd hsm hR
                  go_wp2_with (first | (go_at_call 20; refine Calls.mono (HL1.out _) ?_; rintro e w6 ⟨rfl, rfl⟩) | fail)
                  refine Calls.mono (HFD.out _) ?_
                  rintro e w6 ⟨rfl, k6⟩
                  clear y0 y1 y2 y3 y4 y5
                  go_wp2_with fail
                  refine Calls.mono (HD.out _) ?_
                  rintro e w7 ⟨rfl, rfl⟩
                  have R6 : Hid (Kept 0 0 wv w7) := HKR.out.trans k6
                  have hs4 : (s3 ++ (({ data := #[32, 118] } : ByteArray) ++ sd)).size ≤ 3000200000 + 100010 * (q + 1) := by
                    rw [ByteArray.size_append, ByteArray.size_append, show ({ data := #[32, 118] } : ByteArray).size = 2 from rfl]
                    omega
                  clear k6
                  go_wp2_with fail
                  go_roundw
                  case rel => exact ⟨q + 1, _, by omega, rfl, by go_num, hs4, ⟨R4.out, R6.out⟩⟩
                  case measure => simp [intOf]; omega
                · have hke : q = cnt 0 := by omega
                  have hq2 : ¬ ((q : Int) < (cnt 0 : Int)) := by omega
                  obtain ⟨sl, hsl⟩ : ∃ sl : ByteArray, sl = ⟨(decI ln).toArray⟩ := ⟨_, rfl⟩
                  have hslz : sl.size ≤ 100001 := by rw [hsl, str_size]; exact decI_len HLn.out
                  have HDl : Hid _ := l6decI ln HLn.out
                  unfold strL at HDl
                  rw [← hsl] at HDl
                  have HKW : Hid (Kept 0 0 wB wr) := HKA.out.trans hR.out.2
                  have hm2 : mid2 ⟨0, ln, va, vb, vc, vk⟩ = [] := rfl
                  have R5 : Hid (s3 ++ ((({ data := #[32, 58, 32] } : ByteArray) ++ sl) ++ ({ data := #[10] } : ByteArray)) = ⟨(insT ins k ++ valsT vs (i + 1)).toArray⟩) := by
                    show _ = _
                    rw [hR.out.1, hsl, hke, HNX.out, HVL.out, hm2, List.append_nil, ba_app, ba_app, ba_app, HUU.out]
                    simp only [List.append_assoc]
                  clear hsl hke hR
                  go_wp2_with (first | (go_at_call 20; refine Calls.mono (HL1.out _) ?_; rintro e w6 ⟨rfl, rfl⟩) | fail)
                  refine Calls.mono (HDl.out _) ?_
                  rintro e w7 ⟨rfl, rfl⟩
                  go_wp2_with fail
                  go_roundw
                  case rel => exact ⟨i + 1, _, by omega, rfl, by go_num, ⟨R5.out, HKW.out⟩⟩
                  case measure => simp [intOf]; omega
            · subst ho
              obtain ⟨sd, hsd⟩ : ∃ sd : ByteArray, sd = ⟨(hexN (fb vk) 16).toArray⟩ := ⟨_, rfl⟩
              have hsdz : sd.size ≤ 16 := by rw [hsd, str_size, hexN_len]; exact Nat.le_refl _
              have HFB : Hid _ := fun W : World => specBits vk W HKk.out
              have HD : Hid (∀ W : World, Calls Tryd.prog 18 #[.int .u64 ((fb vk : Nat) : Int), .int .i64 16] W fun e w' => e = .returned (strL (hexN (fb vk) 16)) ∧ Drawn W w') := l6hex 16 (fb vk) (fb_lt64 vk HKk.out) (Nat.le_refl _)
              unfold strL at HD
              rw [← hsd] at HD
              have R2 : Hid (s1 ++ (({ data := #[32] } : ByteArray) ++ sd) = ⟨(U ++ (([118] ++ dec10 i ++ [32, 61, 32]) ++ opW 1) ++ mid0 ⟨1, ln, va, vb, vc, vk⟩ ++ mid1 ⟨1, ln, va, vb, vc, vk⟩).toArray⟩) := by
                show _ = _
                rw [hC1.out.1, hsd, show mid0 ⟨1, ln, va, vb, vc, vk⟩ = [] from rfl, show mid1 ⟨1, ln, va, vb, vc, vk⟩ = [32] ++ hexN (fb vk) 16 from rfl, List.append_nil, ba_app, ba_app]
              clear hsd
              generalize fb vk = fv at HFB HD
              go_wp2_with fail
              refine Calls.mono (HFB.out wc) ?_
              rintro e w5 ⟨rfl, rfl⟩
              go_wp2_with fail
              refine Calls.mono (HD.out w5) ?_
              rintro e w6 ⟨rfl, hDr⟩
              have HKy : Hid (Kept 0 0 wv w6) := hC1.out.2.trans (hDr.kept 0 0)
              go_upto_region 17 with fail
              generalize s1 ++ (({ data := #[32] } : ByteArray) ++ sd) = s2 at R2 ⊢
              clear HD HFB hsdz hDr
              have hs2 : s2.size ≤ 3000200000 := by
                rw [R2.out, str_size]
                have h1 := HUl.out
                have h2 := dec10_len i
                have h3 := opW_len 1
                have h4 := mid0_len (v := ⟨1, ln, va, vb, vc, vk⟩) HA.out
                have h5 := mid1_len ⟨1, ln, va, vb, vc, vk⟩
                simp only [List.length_append, List.length_cons, List.length_nil]
                omega
              have HL1 : Hid (∀ W : World, Calls Tryd.prog 20 #[.int .i64 1] W fun e w' => e = .returned (.int .i64 (cnt 1 : Nat)) ∧ W = w') := fun W => by
                have := l1operands_r 1 W HOP.out.1 HOP.out.2
                rw [ops0T HOP.out.1 HOP.out.2] at this
                exact this
              have hc3 := cnt_le 1
              clear hC1 v0 v2 v5 hs1
              go_wp2_with fail
              go_loopw [3, 7] (fun sv kv W => ∃ (q : Nat) (s : ByteArray), q ≤ cnt 1 ∧ sv = .string s ∧ kv = .int .i64 (q : Int) ∧ s.size ≤ 3000200000 + 100010 * q ∧ Hid (s = ⟨(U ++ (([118] ++ dec10 i ++ [32, 61, 32]) ++ opW 1) ++ mid0 ⟨1, ln, va, vb, vc, vk⟩ ++ mid1 ⟨1, ln, va, vb, vc, vk⟩ ++ oprT ⟨1, ln, va, vb, vc, vk⟩ q).toArray⟩ ∧ Kept 0 0 wv W)) (fun _ kv _ => cnt 1 - (intOf kv).toNat)
              case atStart => exact ⟨0, _, Nat.zero_le _, rfl, rfl, by omega, ⟨by rw [R2.out, oprT, List.append_nil], HKy.out⟩⟩
              case round =>
                obtain ⟨q, s3, hq, rfl, rfl, hs3, hR⟩ := hrel
                clear R2 HKy hs2
                have HA3 : Hid _ := HAT.out.keep HXL.out hR.out.2 (.inr (.inr (Nat.le_refl _)))
                obtain ⟨y0, y1, y2, y3, y4, y5⟩ := HA3.out
                simp only at y0 y1 y2 y3 y4 y5
                by_cases hlq : q < cnt 1
                · have hsm := HFl.out q (by omega)
                  obtain ⟨sd, hsd⟩ : ∃ sd : ByteArray, sd = ⟨(decI (fld ⟨1, ln, va, vb, vc, vk⟩ q)).toArray⟩ := ⟨_, rfl⟩
                  have hsdz : sd.size ≤ 100001 := by rw [hsd, str_size]; exact decI_len hsm
                  have HD : Hid _ := l6decI (fld ⟨1, ln, va, vb, vc, vk⟩ q) hsm
                  unfold strL at HD
                  rw [← hsd] at HD
                  have HFD : Hid (∀ W, Calls Tryd.prog 21 #[(Vl.mk 1 ln va vb vc vk).agg, .int .i64 (q : Int)] W fun e w' => e = .returned (.int .i64 (fld ⟨1, ln, va, vb, vc, vk⟩ q)) ∧ Kept 0 0 W w') := fun W => l1field W _ q (by omega)
                  have R4 : Hid (s3 ++ (({ data := #[32, 118] } : ByteArray) ++ sd) = ⟨(U ++ (([118] ++ dec10 i ++ [32, 61, 32]) ++ opW 1) ++ mid0 ⟨1, ln, va, vb, vc, vk⟩ ++ mid1 ⟨1, ln, va, vb, vc, vk⟩ ++ oprT ⟨1, ln, va, vb, vc, vk⟩ (q + 1)).toArray⟩) := by
                    show _ = _
                    rw [hR.out.1, hsd, oprT, ba_app, ba_app, List.append_assoc]
                  have hq2 : (q : Int) < (cnt 1 : Int) := by omega
                  have hqw : IntKind.i64.wrap ((q : Int) + 1) = (q : Int) + 1 := by rw [IntKind.wrap_i64]; omega
                  have HKR : Hid (Kept 0 0 wv wr) := hR.out.2
                  generalize fld ⟨1, ln, va, vb, vc, vk⟩ q = fq at HD HFD
                  clear hsd hsm hR
                  go_wp2_with (first | (go_at_call 20; refine Calls.mono (HL1.out _) ?_; rintro e w6 ⟨rfl, rfl⟩) | fail)
                  refine Calls.mono (HFD.out _) ?_
                  rintro e w6 ⟨rfl, k6⟩
                  clear y0 y1 y2 y3 y4 y5
                  go_wp2_with fail
                  refine Calls.mono (HD.out _) ?_
                  rintro e w7 ⟨rfl, rfl⟩
                  have R6 : Hid (Kept 0 0 wv w7) := HKR.out.trans k6
                  have hs4 : (s3 ++ (({ data := #[32, 118] } : ByteArray) ++ sd)).size ≤ 3000200000 + 100010 * (q + 1) := by
                    rw [ByteArray.size_append, ByteArray.size_append, show ({ data := #[32, 118] } : ByteArray).size = 2 from rfl]
                    omega
                  clear k6
                  go_wp2_with fail
                  go_roundw
                  case rel => exact ⟨q + 1, _, by omega, rfl, by go_num, hs4, ⟨R4.out, R6.out⟩⟩
                  case measure => simp [intOf]; omega
                · have hke : q = cnt 1 := by omega
                  have hq2 : ¬ ((q : Int) < (cnt 1 : Int)) := by omega
                  obtain ⟨sl, hsl⟩ : ∃ sl : ByteArray, sl = ⟨(decI ln).toArray⟩ := ⟨_, rfl⟩
                  have hslz : sl.size ≤ 100001 := by rw [hsl, str_size]; exact decI_len HLn.out
                  have HDl : Hid _ := l6decI ln HLn.out
                  unfold strL at HDl
                  rw [← hsl] at HDl
                  have HKW : Hid (Kept 0 0 wB wr) := HKA.out.trans hR.out.2
                  have hm2 : mid2 ⟨1, ln, va, vb, vc, vk⟩ = [] := rfl
                  have R5 : Hid (s3 ++ ((({ data := #[32, 58, 32] } : ByteArray) ++ sl) ++ ({ data := #[10] } : ByteArray)) = ⟨(insT ins k ++ valsT vs (i + 1)).toArray⟩) := by
                    show _ = _
                    rw [hR.out.1, hsl, hke, HNX.out, HVL.out, hm2, List.append_nil, ba_app, ba_app, ba_app, HUU.out]
                    simp only [List.append_assoc]
                  clear hsl hke hR
                  go_wp2_with (first | (go_at_call 20; refine Calls.mono (HL1.out _) ?_; rintro e w6 ⟨rfl, rfl⟩) | fail)
                  refine Calls.mono (HDl.out _) ?_
                  rintro e w7 ⟨rfl, rfl⟩
                  go_wp2_with fail
                  go_roundw
                  case rel => exact ⟨i + 1, _, by omega, rfl, by go_num, ⟨R5.out, HKW.out⟩⟩
                  case measure => simp [intOf]; omega
            · have t0 : (o == 0) = false := by simp; exact ho
              have t1 : (o == 1) = false := by simp; exact ho'
              have R2' : Hid (s1 = ⟨(U ++ (([118] ++ dec10 i ++ [32, 61, 32]) ++ opW o) ++ mid0 ⟨o, ln, va, vb, vc, vk⟩ ++ mid1 ⟨o, ln, va, vb, vc, vk⟩).toArray⟩) := by
                show _ = _
                rw [hC1.out.1, show mid0 ⟨o, ln, va, vb, vc, vk⟩ = [] by unfold mid0; rw [if_neg ho], show mid1 ⟨o, ln, va, vb, vc, vk⟩ = [] by unfold mid1; rw [if_neg ho'], List.append_nil, List.append_nil]
              have HKy : Hid (Kept 0 0 wv wc) := hC1.out.2
              go_upto_region 17 with fail
              obtain ⟨s2, hs12⟩ : ∃ s2, s2 = s1 := ⟨_, rfl⟩
              have R2 : Hid (s2 = ⟨(U ++ (([118] ++ dec10 i ++ [32, 61, 32]) ++ opW o) ++ mid0 ⟨o, ln, va, vb, vc, vk⟩ ++ mid1 ⟨o, ln, va, vb, vc, vk⟩).toArray⟩) := by
                show _ = _
                rw [hs12]
                exact R2'.out
              rw [← hs12]
              clear hs12 R2'
              have hs2 : s2.size ≤ 3000200000 := by
                rw [R2.out, str_size]
                have h1 := HUl.out
                have h2 := dec10_len i
                have h3 := opW_len o
                have h4 := mid0_len (v := ⟨o, ln, va, vb, vc, vk⟩) HA.out
                have h5 := mid1_len ⟨o, ln, va, vb, vc, vk⟩
                simp only [List.length_append, List.length_cons, List.length_nil]
                omega
              have HL1 : Hid (∀ W : World, Calls Tryd.prog 20 #[.int .i64 o] W fun e w' => e = .returned (.int .i64 (cnt o : Nat)) ∧ W = w') := fun W => by
                have := l1operands_r o W HOP.out.1 HOP.out.2
                rw [ops0T HOP.out.1 HOP.out.2] at this
                exact this
              have hc3 := cnt_le o
              clear hC1 v0 v2 v5 hs1
              go_wp2_with fail
              go_loopw [3, 7] (fun sv kv W => ∃ (q : Nat) (s : ByteArray), q ≤ cnt o ∧ sv = .string s ∧ kv = .int .i64 (q : Int) ∧ s.size ≤ 3000200000 + 100010 * q ∧ Hid (s = ⟨(U ++ (([118] ++ dec10 i ++ [32, 61, 32]) ++ opW o) ++ mid0 ⟨o, ln, va, vb, vc, vk⟩ ++ mid1 ⟨o, ln, va, vb, vc, vk⟩ ++ oprT ⟨o, ln, va, vb, vc, vk⟩ q).toArray⟩ ∧ Kept 0 0 wv W)) (fun _ kv _ => cnt o - (intOf kv).toNat)
              case atStart => exact ⟨0, _, Nat.zero_le _, rfl, rfl, by omega, ⟨by rw [R2.out, oprT, List.append_nil], HKy.out⟩⟩
              case round =>
                obtain ⟨q, s3, hq, rfl, rfl, hs3, hR⟩ := hrel
                clear R2 HKy hs2
                have HA3 : Hid _ := HAT.out.keep HXL.out hR.out.2 (.inr (.inr (Nat.le_refl _)))
                obtain ⟨y0, y1, y2, y3, y4, y5⟩ := HA3.out
                simp only at y0 y1 y2 y3 y4 y5
                by_cases hlq : q < cnt o
                · have hsm := HFl.out q (by omega)
                  obtain ⟨sd, hsd⟩ : ∃ sd : ByteArray, sd = ⟨(decI (fld ⟨o, ln, va, vb, vc, vk⟩ q)).toArray⟩ := ⟨_, rfl⟩
                  have hsdz : sd.size ≤ 100001 := by rw [hsd, str_size]; exact decI_len hsm
                  have HD : Hid _ := l6decI (fld ⟨o, ln, va, vb, vc, vk⟩ q) hsm
                  unfold strL at HD
                  rw [← hsd] at HD
                  have HFD : Hid (∀ W, Calls Tryd.prog 21 #[(Vl.mk o ln va vb vc vk).agg, .int .i64 (q : Int)] W fun e w' => e = .returned (.int .i64 (fld ⟨o, ln, va, vb, vc, vk⟩ q)) ∧ Kept 0 0 W w') := fun W => l1field W _ q (by omega)
                  have R4 : Hid (s3 ++ (({ data := #[32, 118] } : ByteArray) ++ sd) = ⟨(U ++ (([118] ++ dec10 i ++ [32, 61, 32]) ++ opW o) ++ mid0 ⟨o, ln, va, vb, vc, vk⟩ ++ mid1 ⟨o, ln, va, vb, vc, vk⟩ ++ oprT ⟨o, ln, va, vb, vc, vk⟩ (q + 1)).toArray⟩) := by
                    show _ = _
                    rw [hR.out.1, hsd, oprT, ba_app, ba_app, List.append_assoc]
                  have hq2 : (q : Int) < (cnt o : Int) := by omega
                  have hqw : IntKind.i64.wrap ((q : Int) + 1) = (q : Int) + 1 := by rw [IntKind.wrap_i64]; omega
                  have HKR : Hid (Kept 0 0 wv wr) := hR.out.2
                  generalize fld ⟨o, ln, va, vb, vc, vk⟩ q = fq at HD HFD
                  clear hsd hsm hR
                  go_wp2_with (first | (go_at_call 20; refine Calls.mono (HL1.out _) ?_; rintro e w6 ⟨rfl, rfl⟩) | fail)
                  refine Calls.mono (HFD.out _) ?_
                  rintro e w6 ⟨rfl, k6⟩
                  clear y0 y1 y2 y3 y4 y5
                  go_wp2_with fail
                  refine Calls.mono (HD.out _) ?_
                  rintro e w7 ⟨rfl, rfl⟩
                  have R6 : Hid (Kept 0 0 wv w7) := HKR.out.trans k6
                  have hs4 : (s3 ++ (({ data := #[32, 118] } : ByteArray) ++ sd)).size ≤ 3000200000 + 100010 * (q + 1) := by
                    rw [ByteArray.size_append, ByteArray.size_append, show ({ data := #[32, 118] } : ByteArray).size = 2 from rfl]
                    omega
                  clear k6
                  go_wp2_with fail
                  go_roundw
                  case rel => exact ⟨q + 1, _, by omega, rfl, by go_num, hs4, ⟨R4.out, R6.out⟩⟩
                  case measure => simp [intOf]; omega
                · have hke : q = cnt o := by omega
                  have hq2 : ¬ ((q : Int) < (cnt o : Int)) := by omega
                  obtain ⟨sl, hsl⟩ : ∃ sl : ByteArray, sl = ⟨(decI ln).toArray⟩ := ⟨_, rfl⟩
                  have hslz : sl.size ≤ 100001 := by rw [hsl, str_size]; exact decI_len HLn.out
                  have HDl : Hid _ := l6decI ln HLn.out
                  unfold strL at HDl
                  rw [← hsl] at HDl
                  have HKW : Hid (Kept 0 0 wB wr) := HKA.out.trans hR.out.2
                  by_cases hp : o = 11 ∨ o = 12
                  · obtain ⟨sc, hsc⟩ : ∃ sc : ByteArray, sc = ⟨(decI vc).toArray⟩ := ⟨_, rfl⟩
                    have hscz : sc.size ≤ 100001 := by rw [hsc, str_size]; exact decI_len HC.out
                    have HDc : Hid _ := l6decI vc HC.out
                    unfold strL at HDc
                    rw [← hsc] at HDc
                    have hm2 : mid2 ⟨o, ln, va, vb, vc, vk⟩ = [32, 64] ++ decI vc := by unfold mid2; rw [if_pos hp]
                    have R5 : Hid ((s3 ++ (({ data := #[32, 64] } : ByteArray) ++ sc)) ++ ((({ data := #[32, 58, 32] } : ByteArray) ++ sl) ++ ({ data := #[10] } : ByteArray)) = ⟨(insT ins k ++ valsT vs (i + 1)).toArray⟩) := by
                      show _ = _
                      rw [hR.out.1, hsl, hsc, hke, HNX.out, HVL.out, hm2, ba_app, ba_app, ba_app, ba_app, ba_app, HUU.out]
                      simp only [List.append_assoc]
                    clear hsl hsc hke hR hm2
                    rcases hp with hpp | hpp
                    all_goals
                      (first | (have t11 : (o == 11) = true := beq_iff_eq.2 hpp) | (have t11 : (o == 11) = false := beq_eq_false_iff_ne.2 (by omega); have t12 : (o == 12) = true := beq_iff_eq.2 hpp))
                      clear hpp
                      go_wp2_with (first | (go_at_call 20; refine Calls.mono (HL1.out _) ?_; rintro e w6 ⟨rfl, rfl⟩) | fail)
                      refine Calls.mono (HDc.out _) ?_
                      rintro e w6 ⟨rfl, rfl⟩
                      go_wp2_with fail
                      refine Calls.mono (HDl.out _) ?_
                      rintro e w7 ⟨rfl, rfl⟩
                      go_wp2_with fail
                      go_roundw
                      case rel => exact ⟨i + 1, _, by omega, rfl, by go_num, ⟨R5.out, HKW.out⟩⟩
                      case measure => simp [intOf]; omega
                  · have t11 : (o == 11) = false := beq_eq_false_iff_ne.2 (by omega)
                    have t12 : (o == 12) = false := beq_eq_false_iff_ne.2 (by omega)
                    have hm2 : mid2 ⟨o, ln, va, vb, vc, vk⟩ = [] := by unfold mid2; rw [if_neg hp]
                    have R5 : Hid (s3 ++ ((({ data := #[32, 58, 32] } : ByteArray) ++ sl) ++ ({ data := #[10] } : ByteArray)) = ⟨(insT ins k ++ valsT vs (i + 1)).toArray⟩) := by
                      show _ = _
                      rw [hR.out.1, hsl, hke, HNX.out, HVL.out, hm2, List.append_nil, ba_app, ba_app, ba_app, HUU.out]
                      simp only [List.append_assoc]
                    clear hsl hke hR
                    go_wp2_with (first | (go_at_call 20; refine Calls.mono (HL1.out _) ?_; rintro e w6 ⟨rfl, rfl⟩) | fail)
                    refine Calls.mono (HDl.out _) ?_
                    rintro e w7 ⟨rfl, rfl⟩
                    go_wp2_with fail
                    go_roundw
                    case rel => exact ⟨i + 1, _, by omega, rfl, by go_num, ⟨R5.out, HKW.out⟩⟩
                    case measure => simp [intOf]; omega
        · obtain rfl : i = n2 := by omega
          have hii : ¬ ((i : Int) < (i : Int)) := by omega
          have HU0 : Hid (st = ⟨(insT ins k ++ valsT vs i ++ outsT outs 0).toArray⟩) := by
            show _ = _
            rw [hR.out.1, outsT, List.append_nil]
          have HK4 : Hid (Kept 0 0 wB wr) := hR.out.2
          have HUl : Hid ((insT ins k ++ valsT vs i).length ≤ 3000000000) := by
            have h := hsz
            rw [hR.out.1, str_size] at h
            exact h
          clear hR hsz
          go_wp2_with fail
          clear q0 q1 q2
          go_loopw [3, 8] (fun sv kv W => ∃ (j : Nat) (s : ByteArray), j ≤ n3 ∧ sv = .string s ∧ kv = .int .i64 (j : Int) ∧ Hid (s = ⟨(insT ins k ++ valsT vs i ++ outsT outs j).toArray⟩ ∧ Kept 0 0 wB W)) (fun _ kv _ => n3 - (intOf kv).toNat)
          case atStart => exact ⟨0, _, Nat.zero_le _, rfl, rfl, ⟨HU0.out, HK4.out⟩⟩
          case round =>
            obtain ⟨j, s4, hj, rfl, rfl, hR⟩ := hrel
            clear HU0 HK4
            obtain ⟨_, q0, q1, q2⟩ := HB.out.keep hR.out.2
            have hsz : s4.size ≤ 3100000000 := by
              rw [hR.out.1, str_size, List.length_append]
              have := HUl.out
              have := outsT_len HS.out.o j (by have := HE.out.2.1; omega)
              omega
            by_cases hlj : j < n3
            · have ci := IR.cell (IR.keep HF.out.o hR.out.2 (.inr (.inr (Nat.le_refl _)))) j (by have := HE.out.2.1; omega)
              have hsm := HS.out.o j (by have := HE.out.2.1; omega)
              have HD : Hid _ := l6decI (outs.getD j 0) hsm
              have hdl := decI_len hsm
              have HNX : Hid (outsT outs (j + 1) = outsT outs j ++ outL (outs.getD j 0)) := rfl
              have HIN : Hid (outL (outs.getD j 0) = [111, 117, 116, 32, 118] ++ decI (outs.getD j 0) ++ [10]) := rfl
              generalize outs.getD j 0 = n at ci HD HNX HIN hdl
              obtain ⟨sd, hsd⟩ : ∃ sd : ByteArray, sd = ⟨(decI n).toArray⟩ := ⟨_, rfl⟩
              have hsdz : sd.size ≤ 100001 := by rw [hsd, str_size]; exact hdl
              unfold strL at HD
              rw [← hsd] at HD
              have R1 : Hid ((s4 ++ ((({ data := #[111, 117, 116, 32, 118] } : ByteArray) ++ sd) ++ ({ data := #[10] } : ByteArray))) = ⟨(insT ins k ++ valsT vs i ++ outsT outs (j + 1)).toArray⟩) := by
                show _ = _
                rw [hR.out.1, hsd, HNX.out, HIN.out, ba_app, ba_app, ba_app]
                simp only [List.append_assoc]
              have k0 : (0 : Int) ≤ (j : Int) := by omega
              have k1 : (j : Int) < (n3 : Int) := by omega
              have hkw : IntKind.i64.wrap ((j : Int) + 1) = (j : Int) + 1 := by rw [IntKind.wrap_i64]; omega
              clear hsd hsm hdl HNX HIN
              go_wp2_with fail
              refine Calls.mono (HD.out wr) ?_
              rintro e w5 ⟨rfl, rfl⟩
              go_wp2_with fail
              go_roundw
              case rel => exact ⟨j + 1, _, by omega, rfl, by go_num, ⟨R1.out, hR.out.2⟩⟩
              case measure => simp [intOf]; omega
            · obtain rfl : j = n3 := by omega
              have hjj : ¬ ((j : Int) < (j : Int)) := by omega
              have hcv := Lib.run_convert_string_bytes (P := Tryd.prog) wr 9 27 5 s4 Tryd.underlying9 Tryd.underlying27 Tryd.underlying5
              have R7 : Hid (YS (Lib.bytesWorld wr 5 s4) (some ⟨wr.heap.size, 0, none⟩) s4.size (bytesOf (textM ins vs outs)) ∧ Kept 0 0 w (Lib.bytesWorld wr 5 s4)) := by
                have hl : bytesOf (textM ins vs outs) = s4.data.toList.map (fun b => (b.toNat : Int)) := by
                  rw [hR.out.1]
                  unfold textM
                  rw [HE.out.1, HE.out.2.1, HE.out.2.2]
                  rfl
                refine ⟨?_, (HK.out.trans hR.out.2).trans (kept_bytes wr 5 s4)⟩
                rw [hl]
                exact ys_bytes wr 5 s4
              generalize Lib.bytesWorld wr 5 s4 = wz at hcv R7
              clear hR
              go_wp2_with fail
              go_ret
              exact ⟨_, _, ⟨_, rfl⟩, R7.out.1, R7.out.2⟩
end Go.Proofs.YtiiimofkkahobaaDoor
