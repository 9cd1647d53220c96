import Derived.Test.YtiiimofkkahobaaDoorP13
import Derived.Test.YtiiimofkkahobaaDoorP14
import Derived.Test.YtiiimofkkahobaaDoorP17
import Derived.Lib.AppendStr
namespace Go.Proofs.YtiiimofkkahobaaDoor
open Go.RowKit Flt
attribute [local go_sem] alloc_drewN setCell_drewN run_store_float
/-! withLine: the words of a line, joined, behind the bytes. -/
/-- Where the row lies to which a string's bytes were appended. -/
theorem str_lies {P : Program} {w w' : World} {base : Nat} {t u ty e : TypeId} {i : TypeInfo} (ht : P.underlying t = some (.slice e)) (hu : P.underlying u = some .string) (hi : P.info? e = some i) (hz : i.zero = some (.int .u8 0)) (hsize : i.size = 1) (hby : i.bytes = 1)
    {v v' : Value} {n : Nat} {xs : List Value} (hown : w.ownsRow base e 1 v n xs) (s : ByteArray) (h0 : 0 < s.size) (hb : n + s.size ≤ 140737488355328)
    (hr : (Builtin.append_ #[t, u] ty #[v, .string s]).run P w = .ok v' w') : ∀ h, v'.ownBlock = some h → v.ownBlock = some h ∨ h = w.heap.size := by
  have hxl : xs.length = n := by simpa using hown.1
  rcases hown.2 with ⟨rfl, rfl⟩ | ⟨g, cap, cur, rfl, hbg, hg, hnc, hcm, hcs, htake⟩
  · rw [run_append_nil_string (P := P) w t u ty e i (.int .u8 0) ht hu hi hz s (by omega) (by omega) (by rw [hby]; omega)] at hr
    cases hr
    intro h hh
    simp [Value.ownBlock] at hh
    exact .inr hh.symm
  · by_cases hroom : n + s.size ≤ cap
    · have hcs' : cur.size = cap := by simpa using hcs
      rw [Lib.run_append_room_string (P := P) w t u ty e i ht hu hi hsize g n cap cur hg s hroom (by omega)] at hr
      cases hr
      exact fun h hh => .inl hh
    · have holds : ∀ j u, xs[j]? = some u → w.cell? ((⟨g, 0, none⟩ : Addr).add j) = some u := hown.cells (g := g) rfl
      rw [Lib.run_append_grow_string (P := P) w t u ty e i (.int .u8 0) ht hu hi hz ⟨g, 0, none⟩ n cap xs (by rw [hsize]; simpa using hxl) holds s (by omega) (by omega) (by rw [hby]; exact growslice_fits (by omega) (by omega))] at hr
      cases hr
      intro h hh
      simp [Value.ownBlock] at hh
      exact .inr hh.symm
theorem str_cells (s : List UInt8) : Lib.strCells ⟨s.toArray⟩ = (bytesOf s).map (Value.int .u8) := by
  unfold Lib.strCells bytesOf
  simp
theorem bytesOf_len (s : List UInt8) : (bytesOf s).length = s.length := by unfold bytesOf; rw [List.length_map]
theorem bytesOf_app (a b : List UInt8) : bytesOf (a ++ b) = bytesOf a ++ bytesOf b := by unfold bytesOf; rw [List.map_append]
theorem wpList_appendS (w : World) {ops : Array Oper} {rest : List Oper} {o : Oper} {a : Act} {Q : Exit → Act → World → Prop} (hgd : o.guard = none) (s x : Operand)
    (ho : o.op = .call { callee := .builtin .append, args := #[s, x], argTypes := #[27, 9] })
    (B : Nat) (v : Value) (bs : List Int) (hs : a.eval s = v) (hown : YB w B v bs) (l : List UInt8) (hx : a.eval x = strL l)
    (hm : 0 < l.length) (h63 : bs.length + l.length ≤ 100000000) (hbase : B ≤ w.heap.size)
    (h : ∀ g cap n w', n = (bs ++ bytesOf l).length → YB w' B (.slice (some ⟨g, 0, none⟩) n cap) (bs ++ bytesOf l) → Chg (fun b => v.ownBlock = some b) w w' → (v.ownBlock = some g ∨ g = w.heap.size) → wpList Tryd.prog ops Q rest (a.put o.dst (.slice (some ⟨g, 0, none⟩) n cap)) w') : wpList Tryd.prog ops Q (o :: rest) a w := by
  obtain ⟨i0, hi, hz0, hz1, hz2⟩ := info_parts infoY
  have hsz : (⟨l.toArray⟩ : ByteArray).size = l.length := str_size l
  refine wpList_plain hgd fun K hK => ?_
  obtain ⟨v', w', hr, h2, h3, h4⟩ := Lib.run_append_own_string (P := Tryd.prog) w B 27 9 o.type 5 i0 Tryd.underlying27 Tryd.underlying9 hi hz0 hz1 hz2 v bs.length _ hown ⟨l.toArray⟩ (by unfold maxLen; omega) (by omega) hbase
  have h5 := str_lies Tryd.underlying27 Tryd.underlying9 hi hz0 hz1 hz2 hown ⟨l.toArray⟩ (by omega) (by omega) hr
  have e : bs.length + (⟨l.toArray⟩ : ByteArray).size = (bs ++ bytesOf l).length := by rw [List.length_append, bytesOf_len, hsz]
  have hY : YB w' B v' (bs ++ bytesOf l) := by
    unfold YB
    rw [List.map_append, ← str_cells, ← e]
    exact h2
  obtain ⟨g, cap, ev, _, _, _⟩ := hY.at_ (by rw [List.length_append, bytesOf_len]; omega)
  unfold Oper.wp execOp
  simp only [ho, resolve, invoke, builtin, Sem.run_bind, Sem.run_pure, Result.andThen_ok, List.map_toArray, List.map_cons, List.map_nil, hs, hx, hr]
  refine hK _ _ ?_
  rw [ev] at hY h5 ⊢
  exact h g cap _ w' rfl hY (chg_grow h3) (h5 g (by simp [Value.ownBlock]))
/-- The words of a line, with blanks between them. -/
def joinW (ws : List (List UInt8)) : List UInt8 := [32].intercalate ws
theorem join_eq (ws : List (List UInt8)) : Lib.join ((ws.map fun l => (⟨l.toArray⟩ : ByteArray)).map (·.data.toList)) [32] = joinW ws := by
  unfold Lib.join joinW
  rw [List.map_map]
  congr 1
  simp [Function.comp_def]
theorem joinS (w : World) (bk o c n : Nat) (ws : List (List UInt8)) (hn : n = ws.length) (hc : ∀ (j : Nat) x, ws[j]? = some x → w.cell? ⟨bk, o + j, none⟩ = some (strL x)) (hbk : bk < w.heap.size) (hcap : ws.length ≤ c) (hlen : (joinW ws).length ≤ 1000000) (hN : ws.length ≤ 1000000) :
    Calls Tryd.prog 44 #[.slice (some ⟨bk, o, none⟩) n c, .string ⟨#[32]⟩] w fun e w' => e = .returned (strL (joinW ws)) ∧ Kept 0 0 w w' := by
  have h := Tryd.strings_Join bk o c (ws.map fun l => (⟨l.toArray⟩ : ByteArray)) ⟨#[32]⟩ w (fun j x hx => by
    rw [List.getElem?_map] at hx
    cases e : ws[j]? with
    | none => rw [e] at hx; cases hx
    | some y => rw [e] at hx; cases hx; exact hc j y e) hbk (by rw [List.length_map]; omega) (by rw [List.length_map]; exact hcap) (by
      show (Lib.join _ [32]).length ≤ _
      rw [join_eq]; omega)
  rw [List.length_map, ← hn] at h
  refine h.mono ?_
  rintro e w' ⟨rfl, k⟩
  refine ⟨?_, Kept.of_below k⟩
  unfold strL
  rw [← join_eq]
set_option maxRecDepth 100000 in
set_option maxHeartbeats 4000000 in
theorem withLineS (w : World) (B : Nat) (v : Value) (bs : List Int) (f : YB w B v bs) (bk o c n : Nat) (ws : List (List UInt8)) (hn : n = ws.length) (hc : ∀ (j : Nat) x, ws[j]? = some x → w.cell? ⟨bk, o + j, none⟩ = some (strL x)) (hbk : bk < w.heap.size) (hcap : ws.length ≤ c) (h0 : 0 < (joinW ws).length) (hlen : (joinW ws).length ≤ 1000000) (hN : ws.length ≤ 1000000) (hb : bs.length ≤ 50000000) (hB : B ≤ w.heap.size) :
    Calls Tryd.prog 25 #[v, .slice (some ⟨bk, o, none⟩) n c] w (Grew w B v (bs ++ bytesOf (joinW ws ++ [10]))) := by
  have H1 : Hid _ := joinS w bk o c n ws hn hc hbk hcap hlen hN
  have HF : Hid _ := f
  have HB : Hid _ := hB
  have HL : Hid (0 < (joinW ws).length ∧ (joinW ws).length ≤ 1000000 ∧ bs.length ≤ 50000000) := ⟨h0, hlen, hb⟩
  clear hn hc hbk hcap f hB h0 hlen hb hN
  generalize joinW ws = l at H1 HL
  go_enter Tryd.func25, Tryd.ntmps25
  go_wp2_with (first
    | (go_at_call 44; refine Calls.mono H1.out ?_; rintro e w1 ⟨rfl, k1⟩)
    | (at_builtin; refine wpList_appendS _ rfl _ _ rfl B _ _ rfl (YB.keep HF.out k1) l rfl HL.out.1 ?c1 ?c2 ?_)
    | fail)
  case c1 => have := HL.out; omega
  case c2 => have := HB.out; have := k1.size; omega
  intro g cap n1 w2 hn1 hY hC hG
  have R1 : Hid _ := hY
  have R2 : Hid (Chg (fun b => v.ownBlock = some b) w w2 ∧ (v.ownBlock = some g ∨ w.heap.size ≤ g) ∧ w.heap.size ≤ w2.heap.size) := by
    refine ⟨Chg.trans k1.chg hC, ?_, ?_⟩
    · rcases hG with c | c
      · exact .inl c
      · right; have := k1.size; omega
    · have := k1.size; have := hC.size; omega
  clear hY hC hG hn1
  go_wp2_with (first
    | (at_builtin; refine wpList_appendY _ rfl _ _ rfl B _ _ rfl (YB.keep R1.out (kept_alloc 0 0 w2 _)) ⟨w2.heap.size, 0, none⟩ 1 1 [10] rfl rfl (newsA w2 _ [10] rfl) (by decide) ?c3 ?c4 ?_)
    | fail)
  case c3 => have := HL.out; rw [List.length_append, bytesOf_len]; omega
  case c4 => have := HB.out; have := R2.out.2.2; simp; omega
  intro g2 cap2 n2 w3 _ hY2 hC2 hG2
  have R3 : Hid _ := hY2
  have R4 : Hid _ := grow_round (n := n2) (cap := cap2) (u := .slice (some ⟨g, 0, none⟩) n1 cap) R2.out.1 (fun h hh => by simp [Value.ownBlock] at hh; subst hh; exact R2.out.2.1) (kept_alloc 0 0 w2 _) hC2 hG2
  clear hY2 hC2 hG2
  go_wp2_with fail
  go_ret
  refine ⟨_, rfl, ?_, R4.out.1, R4.out.2⟩
  rw [bytesOf_app]
  exact R3.out
end Go.Proofs.YtiiimofkkahobaaDoor

namespace Go.Proofs.YtiiimofkkahobaaDoor
open Go.RowKit Flt
attribute [local go_sem] alloc_drewN setCell_drewN run_store_float
/-! Rows of strings, and slices.Concat of three of them. -/
def WB (W : World) (B : Nat) (v : Value) (ss : List (List UInt8)) : Prop := W.ownsRow B 9 1 v ss.length (ss.map fun l => strL l)
theorem WB.keepC {W W' : World} {S : Nat → Prop} {B : Nat} {v : Value} {ss : List (List UInt8)} (f : WB W B v ss) (k : Chg S W W') (hd : ∀ g, v.ownBlock = some g → ¬ S g) : WB W' B v ss := own_keepC f k hd
theorem WB.keep {W W' : World} {B : Nat} {v : Value} {ss : List (List UInt8)} (f : WB W B v ss) (k : Kept 0 0 W W') : WB W' B v ss := own_keepJ f k
theorem WB.blk {W : World} {B : Nat} {v : Value} {ss : List (List UInt8)} (f : WB W B v ss) {g : Nat} (h : v.ownBlock = some g) : B ≤ g ∧ g < W.heap.size := own_blkV f h
theorem WB.nil (W : World) (B : Nat) : WB W B (.slice none 0 0) [] := World.ownsRow_nil _ _ _ _
theorem infoS : (Tryd.prog.info? 9).map (fun i => (i.zero, i.size, i.bytes)) = some (some (.string ⟨#[]⟩), 1, 16) := by kernel_rfl
theorem infoS_parts : ∃ i0, Tryd.prog.info? 9 = some i0 ∧ i0.zero = some (.string ⟨#[]⟩) ∧ i0.size = 1 ∧ i0.bytes = 16 := by
  have h := infoS
  cases e : Tryd.prog.info? 9 with
  | none => rw [e] at h; cases h
  | some i0 =>
    rw [e] at h
    simp only [Option.map_some, Option.some.injEq, Prod.mk.injEq] at h
    exact ⟨i0, rfl, h.1, h.2.1, h.2.2⟩
/-- The words lie in the cells from a on. -/
def WC (w : World) (a : Addr) (ss : List (List UInt8)) : Prop := ∀ j x, ss[j]? = some x → w.cell? (a.add j) = some (strL x)
theorem WC.news {w : World} {a : Addr} {ss : List (List UInt8)} (h : WC w a ss) : ∀ j u, (ss.map fun l => strL l)[j]? = some u → w.cell? (a.add j) = some u := by
  intro j u hu
  rw [List.getElem?_map] at hu
  cases e : ss[j]? with
  | none => rw [e] at hu; cases hu
  | some x => rw [e] at hu; cases hu; exact h j x e
theorem WC.keep {w w' : World} {b o : Nat} {ss : List (List UInt8)} (h : WC w ⟨b, o, none⟩ ss) (hb : b < w.heap.size) (k : Kept 0 0 w w') : WC w' ⟨b, o, none⟩ ss := by
  intro j x e
  rw [add_addr, k.cell (p := ⟨b, o + j, none⟩) hb (by omega), ← add_addr]
  exact h j x e
theorem WB.at_ {W : World} {B : Nat} {v : Value} {ss : List (List UInt8)} (f : WB W B v ss) (h : 0 < ss.length) : ∃ g cap, v = .slice (some ⟨g, 0, none⟩) ss.length cap ∧ B ≤ g ∧ g < W.heap.size ∧ WC W ⟨g, 0, none⟩ ss ∧ ss.length ≤ cap := by
  have hc := f
  rcases f.2 with ⟨_, c⟩ | ⟨g, cap, cur, e, b1, b2, b3, _, b5, b6⟩
  · omega
  · have hg : g < W.heap.size := by
      rcases Nat.lt_or_ge g W.heap.size with c | c
      · exact c
      · rw [Array.getElem?_eq_none c] at b2; cases b2
    refine ⟨g, cap, e, b1, hg, fun j x hx => ?_, b3⟩
    subst e
    exact World.ownsRow.cells (g := g) hc rfl j _ (by rw [List.getElem?_map, hx]; rfl)
theorem wpList_appendW (w : World) {ops : Array Oper} {rest : List Oper} {o : Oper} {a : Act} {Q : Exit → Act → World → Prop} (hgd : o.guard = none) (s x : Operand)
    (ho : o.op = .call { callee := .builtin .append, args := #[s, x], argTypes := #[53, 53] })
    (B : Nat) (v : Value) (ss : List (List UInt8)) (hs : a.eval s = v) (hown : WB w B v ss)
    (ad : Addr) (m c : Nat) (ys : List (List UInt8)) (hx : a.eval x = .slice (some ad) m c) (hl : ys.length = m) (hnews : WC w ad ys)
    (hm : 0 < m) (h63 : ss.length + m ≤ 1000000) (hbase : B ≤ w.heap.size)
    (h : ∀ g cap n w', n = (ss ++ ys).length → WB w' B (.slice (some ⟨g, 0, none⟩) n cap) (ss ++ ys) → Chg (fun b => v.ownBlock = some b) w w' → (v.ownBlock = some g ∨ g = w.heap.size) → wpList Tryd.prog ops Q rest (a.put o.dst (.slice (some ⟨g, 0, none⟩) n cap)) w') : wpList Tryd.prog ops Q (o :: rest) a w := by
  obtain ⟨i0, hi, hz0, hz1, hz2⟩ := infoS_parts
  refine wpList_append_lies w hgd s x 53 ho B 9 i0 (.string ⟨#[]⟩) 1 16 Tryd.underlying53 hi hz0 hz1 hz2 rfl (by decide) v ss.length _ hs hown ad m c (ys.map fun l => strL l) hx (by rw [List.length_map, hl, Nat.mul_one]) hnews.news ?_ hm (by unfold maxLen; omega) (by omega) hbase _ rfl ?_
  · intro u hu; obtain ⟨x, _, rfl⟩ := List.mem_map.1 hu; rfl
  · intro g cap w' h1 h2 h3 _
    have e : ss.length + m = (ss ++ ys).length := by rw [List.length_append, hl]
    rw [e] at h1 ⊢
    refine h g cap _ w' rfl ?_ (chg_grow h2) h3
    unfold WB
    rw [List.map_append]
    exact h1
/-- What is grown in a row of one's own leaves what was there. -/
theorem wb_kept {w W W' : World} {v : Value} {ss : List (List UInt8)} (k : Kept 0 0 w W) (f : WB W w.heap.size v ss) (c : Chg (fun b => v.ownBlock = some b) W W') : Kept 0 0 w W' :=
  ⟨c.os.trans k.os, c.tape.trans k.tape, c.output.trans k.output, Nat.le_trans k.size c.size, fun i hi hn => (c.block i (Nat.lt_of_lt_of_le hi k.size) (fun h => by have := (f.blk h).1; omega)).trans (k.block i hi hn)⟩
def totW (L : Nat → Nat) : Nat → Nat
  | 0 => 0
  | k + 1 => totW L k + L k
def catW (X : Nat → List (List UInt8)) : Nat → List (List UInt8)
  | 0 => []
  | k + 1 => catW X k ++ X k
theorem cat_len (X : Nat → List (List UInt8)) (L : Nat → Nat) (h : ∀ k, k < 3 → (X k).length = L k) : ∀ k, k ≤ 3 → (catW X k).length = totW L k
  | 0, _ => rfl
  | k + 1, hk => by rw [catW, totW, List.length_append, cat_len X L h k (by omega), h k (by omega)]
theorem tot_le (L : Nat → Nat) (h : ∀ k, k < 3 → L k ≤ 100) : ∀ k, k ≤ 3 → totW L k ≤ 100 * k
  | 0, _ => Nat.le_refl _
  | k + 1, hk => by have := tot_le L h k (by omega); have := h k (by omega); rw [totW]; omega
theorem growS (w : World) (n : Nat) (hn : 0 < n) (h : n ≤ 1000) : Calls Tryd.prog 46 #[.slice none 0 0, .int .i64 (n : Int)] w fun e w' => ∃ v, e = .returned v ∧ WB w' w.heap.size v [] ∧ Kept 0 0 w w' := by
  obtain ⟨i0, hi, hz0, hz1, hz2⟩ := infoS_parts
  have h1 := Any8.slices_Grow_grow Tryd.layG i0 (.string ⟨#[]⟩) hi hz0 (by omega) none 0 0 n [] w (Nat.le_refl _) (by omega) (by rw [hz2]; omega) (by omega) (by simp) (fun _ => rfl) (fun a ha => by cases ha)
  refine Calls.mono h1 ?_
  rintro e w' ⟨rfl, rfl⟩
  refine ⟨_, rfl, ?_, ?_⟩
  · refine ⟨rfl, .inr ⟨w.heap.size, _, _, rfl, Nat.le_refl _, heap_alloc_new w.drew _, Nat.zero_le _, grownCap_le_maxLen w (0 + n) 0 _ (by unfold maxLen; omega), ?_, rfl⟩⟩
    have hge := grownCap_ge w (0 + n) 0 (Tryd.layG_ren.t 25)
    have hz1 : (Value.string ⟨#[]⟩).cells.size = 1 := rfl
    simp only [Array.size_append, size_zeroCells, hz1, List.size_toArray, List.length_nil]
    omega
  · exact (kept_drewN 0 0 w 1).trans (kept_alloc 0 0 w.drew _)
set_option maxRecDepth 100000 in
set_option maxHeartbeats 4000000 in
theorem concatS (w : World) (bq cq : Nat) (A : Nat → Nat) (L C : Nat → Nat) (X : Nat → List (List UInt8)) (hq : ∀ k, k < 3 → w.cell? ⟨bq, k, none⟩ = some (.slice (some ⟨A k, 0, none⟩) (L k) (C k))) (hX : ∀ k, k < 3 → (X k).length = L k ∧ 0 < L k ∧ L k ≤ 100 ∧ A k < w.heap.size ∧ WC w ⟨A k, 0, none⟩ (X k)) (hbq : bq < w.heap.size) :
    Calls Tryd.prog 27 #[.slice (some ⟨bq, 0, none⟩) 3 cq] w fun e w' => ∃ v, e = .returned v ∧ WB w' w.heap.size v (catW X 3) ∧ Kept 0 0 w w' := by
  have HQ : Hid _ := hq
  have HX : Hid _ := hX
  have HB : Hid _ := hbq
  have HT : Hid (∀ k, k ≤ 3 → totW L k ≤ 100 * k) := tot_le L (fun k hk => (hX k hk).2.2.1)
  clear hq hX hbq
  go_enter Tryd.func27, Tryd.ntmps27
  go_wp2_with fail
  go_loopw [3, 11] (fun z i W => W = w ∧ ∃ k : Nat, k ≤ 3 ∧ i = .int .i64 k ∧ z = .int .i64 (totW L k : Nat)) (fun _ i _ => 3 - (intOf i).toNat)
  case atStart => exact ⟨rfl, 0, by decide, rfl, rfl⟩
  case round =>
    obtain ⟨rfl, k, hk, rfl, rfl⟩ := hrel
    by_cases hlt : k < 3
    · have c1 := HQ.out k hlt
      have HS : Hid (totW L (k + 1) = totW L k + L k) := rfl
      have t1 := HT.out k (by omega)
      have t2 := (HX.out k hlt).2.2.1
      have t3 : IntKind.i64.wrap (((totW L k : Nat) : Int) + (L k : Int)) = ((totW L k : Nat) : Int) + (L k : Int) := by rw [IntKind.wrap_i64]; omega
      have t4 : ¬ (((totW L k : Nat) : Int) + (L k : Int) < 0) := by omega
      go_wp2_with fail
      go_roundw
      case rel => exact ⟨trivial, k + 1, by omega, by go_num, by rw [HS.out]; push_cast; rfl⟩
      case measure => simp [intOf]; omega
    · obtain rfl : k = 3 := by omega
      have HG : Hid _ := growS wr (totW L 3) (by have := (HX.out 0 (by decide)).2.1; show 0 < totW L 2 + L 2; have := (HX.out 2 (by decide)).2.1; omega) (by have := HT.out 3 (by decide); omega)
      go_wp2_with (go_at_call 46; refine Calls.mono HG.out ?_; rintro e w1 ⟨u, rfl, g1, g2⟩)
      have G1 : Hid _ := g1
      have G2 : Hid _ := g2
      clear g1 g2 HG
      go_loopw [6, 27] (fun v i W => ∃ k : Nat, k ≤ 3 ∧ i = .int .i64 k ∧ Hid (WB W wr.heap.size v (catW X k)) ∧ Hid (Kept 0 0 wr W)) (fun _ i _ => 3 - (intOf i).toNat)
      case atStart => exact ⟨0, by decide, rfl, G1, G2⟩
      case round =>
        rename World => W0
        obtain ⟨k, hk, rfl, hR, hK⟩ := hrel
        by_cases hlt : k < 3
        · have c1 := (hK.out.cell (p := ⟨bq, k, none⟩) HB.out (by omega)).trans (HQ.out k hlt)
          have hx := HX.out k hlt
          have HC : Hid _ := hx.2.2.2.2.keep hx.2.2.2.1 hK.out
          have HL : Hid ((X k).length = L k ∧ 0 < L k ∧ (catW X k).length + L k ≤ 1000) := ⟨hx.1, hx.2.1, by
            rw [cat_len X L (fun k hk => (HX.out k hk).1) k (by omega)]
            have := HT.out k (by omega)
            have := hx.2.2.1
            omega⟩
          clear hx
          go_wp2_with (first | (at_builtin; refine wpList_appendW _ rfl _ _ rfl wr.heap.size _ _ rfl hR.out ⟨A k, 0, none⟩ (L k) (C k) (X k) rfl HL.out.1 HC.out HL.out.2.1 ?c2 ?c3 ?_) | fail)
          case c2 => have := HL.out; omega
          case c3 => exact hK.out.size
          intro g cap n9 w9 _ hR9 hC9 hG9
          have R1 : Hid _ := hR9
          have R2 : Hid _ := wb_kept hK.out hR.out hC9
          clear hR9 hC9 hG9
          go_wp2_with fail
          go_roundw
          case rel => exact ⟨k + 1, by omega, by go_num, R1, R2⟩
          case measure => simp [intOf]; omega
        · obtain rfl : k = 3 := by omega
          go_wp2_with fail
          go_ret
          exact ⟨_, rfl, hR.out, hK.out⟩
end Go.Proofs.YtiiimofkkahobaaDoor

namespace Go.Proofs.YtiiimofkkahobaaDoor
open Go.RowKit Flt
attribute [local go_sem] alloc_drewN setCell_drewN run_store_float
/-! partsOf. -/
def opsTo (v : Vl) : Nat → List (List UInt8)
  | 0 => []
  | k + 1 => opsTo v k ++ [[118] ++ decI (fld v k)]
def partsW (v : Vl) : List (List UInt8) := if v.op = 0 then [decI v.a] else if v.op = 1 then [hexN (fb v.k) 16] else opsTo v (cnt v.op) ++ (if placeB v.op then [[64] ++ decI v.c] else [])
theorem WB.lit (w : World) (B : Nat) (l : List UInt8) (hb : B ≤ w.heap.size) : WB (w.alloc (.cells #[strL l] 9)) B (.slice (some ⟨w.heap.size, 0, none⟩) 1 1) [l] :=
  World.ownsRow_lit (base := B) (e := 9) (size := 1) w #[strL l] 1 hb (by unfold maxLen; omega) rfl
theorem wc_lit (w : World) (l : List UInt8) : WC (w.alloc (.cells #[strL l] 9)) ⟨w.heap.size, 0, none⟩ [l] := by
  intro j x e
  cases j with
  | zero => cases e; rw [add_addr, World.cell?_alloc_new]; rfl
  | succ j => cases e
structure SmV (v : Vl) : Prop where
  op : 0 ≤ v.op ∧ v.op ≤ 13
  len : Sml v.len
  a : Sml v.a
  c : Sml v.c
  f : ∀ q, q < 3 → Sml (fld v q)
  k : v.k < 18446744073709551616
def PtO (w : World) (v : Vl) (e : Ending) (w' : World) : Prop := ∃ u, e = .returned u ∧ WB w' w.heap.size u (partsW v) ∧ Kept 0 0 w w'
set_option maxRecDepth 100000 in
set_option maxHeartbeats 4000000 in
theorem parts0 (w : World) (T : Tabs w) (v : Vl) (S : SmV v) (h0 : v.op = 0) : Calls Tryd.prog 29 #[v.agg] w (PtO w v) := by
  have H1 : Hid (∀ w, Tabs w → Calls Tryd.prog 26 #[.int .i64 v.a] w fun e w' => e = .returned (strL (decI v.a)) ∧ Kept 0 0 w w') := fun w T => itoaS v.a S.a.1 (by have := S.a.2; omega) w T
  have HT : Hid _ := T
  have HP : Hid (partsW v = [decI v.a]) := if_pos h0
  have t0 : (v.op == 0) = true := by rw [h0]; rfl
  clear T S h0
  go_enter Tryd.func29, Tryd.ntmps29
  go_wp2_with (go_at_call 26; refine Calls.mono (H1.out _ (HT.out.keep (kept_alloc 0 0 w _))) ?_; rintro e w1 ⟨rfl, k1⟩)
  go_ret
  refine ⟨_, rfl, ?_, ?_⟩
  · rw [HP.out]; exact WB.lit w1 _ _ (by have := k1.size; simp at this; omega)
  · exact ((kept_alloc 0 0 w _).trans k1).trans (kept_alloc 0 0 w1 _)
set_option maxRecDepth 100000 in
set_option maxHeartbeats 4000000 in
theorem parts1 (w : World) (T : Tabs w) (v : Vl) (S : SmV v) (h0 : v.op = 1) : Calls Tryd.prog 29 #[v.agg] w (PtO w v) := by
  have H1 : Hid (∀ w, Tabs w → Calls Tryd.prog 47 #[.int .u64 (fb v.k : Nat)] w fun e w' => e = .returned (strL (hexN (fb v.k) 16)) ∧ Kept 0 0 w w') := fun w T => hexOfS (fb v.k) (fb_lt64 _ S.k) w T
  have H2 : Hid (∀ w, Calls Tryd.prog 48 #[.float .f64 v.k] w fun e w' => e = .returned (.int .u64 (fb v.k : Nat)) ∧ w' = w) := fun w => implBits _ w
  have HT : Hid _ := T
  have HP : Hid (partsW v = [hexN (fb v.k) 16]) := by show _ = _; unfold partsW; rw [if_neg (by omega), if_pos h0]
  have t0 : (v.op == 0) = false := by rw [h0]; rfl
  have t1 : (v.op == 1) = true := by rw [h0]; rfl
  clear T S h0
  go_enter Tryd.func29, Tryd.ntmps29
  go_wp2_with (first
    | (go_at_call 48; refine Calls.mono (H2.out _) ?_; rintro e w1 ⟨rfl, rfl⟩)
    | (go_at_call 47; refine Calls.mono (H1.out _ (HT.out.keep (kept_alloc 0 0 w _))) ?_; rintro e w1 ⟨rfl, k1⟩))
  go_ret
  refine ⟨_, rfl, ?_, ?_⟩
  · rw [HP.out]; exact WB.lit w1 _ _ (by have := k1.size; simp at this; omega)
  · exact ((kept_alloc 0 0 w _).trans k1).trans (kept_alloc 0 0 w1 _)
theorem ops_fld (v : Vl) (k : Nat) (h : k < cnt v.op) : (opsOf v).getD k 0 = fld v k := by
  have := cnt_le v.op
  unfold opsOf fld
  rw [List.getD_eq_getElem?_getD, List.getElem?_take_of_lt h]
  match k, h with
  | 0, _ => rfl
  | 1, _ => rfl
  | 2, _ => rfl
  | k + 3, h => omega
theorem opsTo_len (v : Vl) : ∀ k, (opsTo v k).length = k
  | 0 => rfl
  | k + 1 => by rw [opsTo, List.length_append, opsTo_len v k]; rfl
theorem WB.down {W : World} {B B' : Nat} {v : Value} {ss : List (List UInt8)} (f : WB W B v ss) (h : B' ≤ B) : WB W B' v ss := by
  refine ⟨f.1, ?_⟩
  rcases f.2 with c | ⟨g, cap, cur, e, b1, b2⟩
  · exact .inl c
  · exact .inr ⟨g, cap, cur, e, Nat.le_trans h b1, b2⟩
set_option maxRecDepth 100000 in
set_option maxHeartbeats 4000000 in
theorem parts2 (w : World) (T : Tabs w) (v : Vl) (S : SmV v) (h0 : v.op ≠ 0) (h1 : v.op ≠ 1) : Calls Tryd.prog 29 #[v.agg] w (PtO w v) := by
  have H1 : Hid (∀ k, k < 3 → ∀ w, Tabs w → Calls Tryd.prog 28 #[.int .i64 (fld v k)] w fun e w' => e = .returned (strL ([118] ++ decI (fld v k))) ∧ Kept 0 0 w w') := fun k hk w T => valNameS (fld v k) (S.f k hk).1 (by have := (S.f k hk).2; omega) w T
  have H2 : Hid (∀ w, Tabs w → Calls Tryd.prog 26 #[.int .i64 v.c] w fun e w' => e = .returned (strL (decI v.c)) ∧ Kept 0 0 w w') := fun w T => itoaS v.c S.c.1 (by have := S.c.2; omega) w T
  have H3 : Hid _ := fun w => operandsOf w v
  have H4 : Hid _ := fun w => hasPlace v.op w
  have HT : Hid _ := T
  have HP : Hid (partsW v = opsTo v (cnt v.op) ++ (if placeB v.op then [[64] ++ decI v.c] else [])) := by show _ = _; unfold partsW; rw [if_neg h0, if_neg h1]
  have HC : Hid _ := cnt_le v.op
  have hz : ¬ (9223372036854775807 < (⟨#[64]⟩ : ByteArray).size + (⟨(decI v.c).toArray⟩ : ByteArray).size) := by
    rw [show (⟨#[64]⟩ : ByteArray).size = 1 from rfl, str_size]
    have := decI_len S.c
    omega
  have HZ : Hid (strL ([64] ++ decI v.c) = .string ((⟨#[64]⟩ : ByteArray) ++ ⟨(decI v.c).toArray⟩)) := by show _ = _; unfold strL; rw [← ba_app]
  have t0 : (v.op == 0) = false := by simpa using h0
  have t1 : (v.op == 1) = false := by simpa using h1
  clear T S h0 h1
  go_enter Tryd.func29, Tryd.ntmps29
  go_wp2_with (go_at_call 49; refine Calls.mono (H3.out _) ?_; rintro e w1 ⟨g, rfl, hI, hg, k1⟩)
  have K0 : Hid (Kept 0 0 w w1 ∧ w.heap.size < w1.heap.size) := ⟨(kept_alloc 0 0 w _).trans k1, by have := k1.size; simp at this; omega⟩
  have HI : Hid _ := hI
  have hbx : (w.alloc (vbox v.op v.len v.a v.b v.c v.k)).heap.size = w.heap.size + 1 := by simp
  have X0 : Hid (w1.cell? ⟨w.heap.size, 0, none⟩ = some (.int .i64 v.op)) := (k1.cell (p := ⟨w.heap.size, 0, none⟩) (by show w.heap.size < _; rw [hbx]; omega) (by omega)).trans (by rw [World.cell?_alloc_new]; rfl)
  have X4 : Hid (w1.cell? ⟨w.heap.size, 4, none⟩ = some (.int .i64 v.c)) := (k1.cell (p := ⟨w.heap.size, 4, none⟩) (by show w.heap.size < _; rw [hbx]; omega) (by omega)).trans (by rw [World.cell?_alloc_new]; rfl)
  have HG : Hid _ := hg
  clear hI k1 hbx hg
  generalize hq : cnt v.op = q at HC HP HI
  go_loopw [3, 24] (fun u i W => ∃ k : Nat, k ≤ q ∧ i = .int .i64 k ∧ Hid (WB W w1.heap.size u (opsTo v k)) ∧ Hid (Kept 0 0 w1 W)) (fun _ i _ => q - (intOf i).toNat)
  case atStart => exact ⟨0, Nat.zero_le _, rfl, WB.nil _ _, Kept.refl 0 0 w1⟩
  case round =>
    obtain ⟨k, hk, rfl, hR, hK⟩ := hrel
    by_cases hlt : k < q
    · have hlt3 : Hid (k < 3) := by have := HC.out; show _ < _; omega
      have c1 : wr.cell? ⟨g, k, none⟩ = some (.int .i64 (fld v k)) := by
        rcases HI.out.at_ with z | ⟨g', off, e, z1, z2, z3, z4⟩
        · omega
        · cases e
          have := z4 k hlt
          rw [ops_fld v k (by omega), Nat.zero_add] at this
          exact (hK.out.cell (p := ⟨g, k, none⟩) z3 (by omega)).trans this
      have HV : Hid _ := H1.out k hlt3.out wr ((HT.out.keep K0.out.1).keep hK.out)
      have HL : Hid ((opsTo v k).length = k) := opsTo_len v k
      have HO : Hid (opsTo v (k + 1) = opsTo v k ++ [[118] ++ decI (fld v k)]) := rfl
      generalize [118] ++ decI (fld v k) = l at HV HO
      generalize fld v k = y at c1 HV
      go_wp2_with (first
        | (go_at_call 28; refine Calls.mono HV.out ?_; rintro e w2 ⟨rfl, k2⟩)
        | (at_builtin; refine wpList_appendW _ rfl _ _ rfl w1.heap.size _ _ rfl ((hR.out.keep k2).keep (kept_alloc 0 0 w2 _)) ⟨w2.heap.size, 0, none⟩ 1 1 [l] rfl rfl (wc_lit w2 l) (by decide) ?c2 ?c3 ?_)
        | fail)
      case c2 => have := HL.out; have := hlt3.out; omega
      case c3 => have := hK.out.size; have := k2.size; simp; omega
      intro g9 cap n9 w9 _ hR9 hC9 hG9
      have R1 : Hid _ := hR9
      have R2 : Hid _ := wb_kept ((hK.out.trans k2).trans (kept_alloc 0 0 w2 _)) ((hR.out.keep k2).keep (kept_alloc 0 0 w2 _)) hC9
      clear hR9 hC9 hG9
      rw [← HO.out] at R1
      have hk3 := hlt3.out
      go_wp2_with fail
      go_roundw
      case rel => exact ⟨k + 1, by omega, by go_num, R1, R2⟩
      case measure => simp [intOf]; omega
    · obtain rfl : k = q := by omega
      have x0 : wr.cell? ⟨w.heap.size, 0, none⟩ = some (.int .i64 v.op) := (hK.out.cell (p := ⟨w.heap.size, 0, none⟩) K0.out.2 (by omega)).trans X0.out
      have x4 : wr.cell? ⟨w.heap.size, 4, none⟩ = some (.int .i64 v.c) := (hK.out.cell (p := ⟨w.heap.size, 4, none⟩) K0.out.2 (by omega)).trans X4.out
      have HI2 : Hid _ := H2.out wr ((HT.out.keep K0.out.1).keep hK.out)
      have H5 : Hid _ := H4.out wr
      have HL : Hid ((opsTo v k).length = k ∧ k ≤ 3) := ⟨opsTo_len v k, HC.out⟩
      cases hp : placeB v.op with
      | false =>
        rw [hp] at H5 HP
        go_wp2_with (go_at_call 50; refine Calls.mono H5.out ?_; rintro e w2 ⟨rfl, rfl⟩)
        go_ret
        refine ⟨_, rfl, ?_, K0.out.1.trans hK.out⟩
        rw [HP.out]
        simp only [Bool.false_eq_true, if_false, List.append_nil]
        exact hR.out.down (Nat.le_of_lt K0.out.2)
      | true =>
        rw [hp] at H5 HP
        have HZ2 : Hid _ := HZ.out
        have HW : Hid (∀ w2, WC (World.alloc w2 (.cells #[.string ((⟨#[64]⟩ : ByteArray) ++ ⟨(decI v.c).toArray⟩)] 9)) ⟨w2.heap.size, 0, none⟩ [[64] ++ decI v.c]) := fun w2 => by
          rw [← HZ.out]; exact wc_lit w2 _
        go_wp2_with (first
          | (go_at_call 50; refine Calls.mono H5.out ?_; rintro e w2 ⟨rfl, rfl⟩)
          | (go_at_call 26; refine Calls.mono HI2.out ?_; rintro e w2 ⟨rfl, k2⟩)
          | (at_builtin; refine wpList_appendW _ rfl _ _ rfl w1.heap.size _ _ rfl ((hR.out.keep k2).keep (kept_alloc 0 0 w2 _)) ⟨w2.heap.size, 0, none⟩ 1 1 [[64] ++ decI v.c] rfl rfl (HW.out w2) (by decide) ?c2 ?c3 ?_)
          | fail)
        case c2 => have := HL.out; omega
        case c3 => have := hK.out.size; have := k2.size; simp; omega
        intro g9 cap n9 w9 _ hR9 hC9 hG9
        have R1 : Hid _ := hR9
        have R2 : Hid _ := wb_kept ((hK.out.trans k2).trans (kept_alloc 0 0 w2 _)) ((hR.out.keep k2).keep (kept_alloc 0 0 w2 _)) hC9
        clear hR9 hC9 hG9
        go_wp2_with fail
        go_ret
        refine ⟨_, rfl, ?_, K0.out.1.trans R2.out⟩
        rw [HP.out, if_pos trivial]
        exact WB.down R1.out (Nat.le_of_lt K0.out.2)
theorem partsS (w : World) (T : Tabs w) (v : Vl) (S : SmV v) : Calls Tryd.prog 29 #[v.agg] w (PtO w v) := by
  by_cases h0 : v.op = 0
  · exact parts0 w T v S h0
  · by_cases h1 : v.op = 1
    · exact parts1 w T v S h1
    · exact parts2 w T v S h0 h1
end Go.Proofs.YtiiimofkkahobaaDoor
