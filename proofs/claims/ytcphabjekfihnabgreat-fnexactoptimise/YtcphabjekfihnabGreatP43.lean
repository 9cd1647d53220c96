import Derived.Test.YtcphabjekfihnabGreatP24
import Derived.Test.YtcphabjekfihnabGreatP16
import Derived.Deep.AppendSrc
import Derived.Test.YtcphabjekfihnabGreatP42
namespace Go.Proofs.YtcphabjekfihnabGreat
open Go.RowKit Flt
attribute [local go_sem] alloc_drewN setCell_drewN run_store_float

theorem VS.at_idx {w : World} {lo hi : Nat} {a : Option Addr} {n : Nat} {vs : List Vl} (f : VS w lo hi a n vs) {i : Nat} (h : i < n) : ∃ g off, a = some ⟨g, off, none⟩ ∧ g < w.heap.size ∧ g < hi ∧ lo ≤ g ∧ At w g (off + i * 6) (vs.getD i Vl.zero) := by
  rcases f.at_ with z | ⟨g, off, e, z1, z2, z3, z4⟩
  · omega
  · exact ⟨g, off, e, z3, z2, z1, z4 i h⟩
theorem VS.keepC {w w' : World} {S : Nat → Prop} {lo hi : Nat} {a : Option Addr} {n : Nat} {vs : List Vl} (f : VS w lo hi a n vs) (k : Chg S w w') (hd : ∀ g, lo ≤ g → g < hi → ¬ S g) : VS w' lo hi a n vs :=
  ⟨f.len, f.lt, by
    rcases f.at_ with z | ⟨g, off, e, z1, z2, z3, z4⟩
    · exact .inl z
    · refine .inr ⟨g, off, e, z1, z2, Nat.lt_of_lt_of_le z3 k.size, fun j hj => ?_⟩
      have e : ∀ o, w'.cell? ⟨g, o, none⟩ = w.cell? ⟨g, o, none⟩ := fun o => k.cell (p := ⟨g, o, none⟩) z3 (hd g z1 z2)
      obtain ⟨c0, c1, c2, c3, c4, c5⟩ := z4 j hj
      exact ⟨by rw [e]; exact c0, by rw [e]; exact c1, by rw [e]; exact c2, by rw [e]; exact c3, by rw [e]; exact c4, by rw [e]; exact c5⟩⟩
theorem IS.keepC {w w' : World} {S : Nat → Prop} {lo hi : Nat} {a : Option Addr} {n : Nat} {xs : List Int} (f : IS w lo hi a n xs) (k : Chg S w w') (hd : ∀ g, lo ≤ g → g < hi → ¬ S g) : IS w' lo hi a n xs :=
  ⟨f.len, by
    rcases f.at_ with z | ⟨g, off, e, z1, z2, z3, z4⟩
    · exact .inl z
    · exact .inr ⟨g, off, e, z1, z2, Nat.lt_of_lt_of_le z3 k.size, fun j hj => by rw [k.cell (p := ⟨g, off + j, none⟩) z3 (hd g z1 z2)]; exact z4 j hj⟩⟩
theorem opsOf_fld (v : Vl) {q : Nat} (hq : q < cnt v.op) : (opsOf v).getD q 0 = fld v q := by
  have := cnt_le v.op
  unfold opsOf
  rw [List.getD_eq_getElem?_getD, List.getElem?_take_of_lt hq]
  rcases (by omega : q = 0 ∨ q = 1 ∨ q = 2) with rfl | rfl | rfl <;> rfl
theorem l1ops (op : Int) (h0 : 0 ≤ op) (h1 : op ≤ 13) (w : World) : Calls Tryz.prog 51 #[.int .i64 op] w fun e w' => e = .returned (.int .i64 (cnt op : Nat)) ∧ w = w' := by
  have := l1operands op w h0 h1
  rw [ops0 h0 h1] at this
  exact this.mono fun _ _ h => ⟨h.1, h.2.symm⟩
theorem own_keepC {base e size n : Nat} {v : Value} {xs : List Value} {W W' : World} {S : Nat → Prop} (o : W.ownsRow base e size v n xs) (k : Chg S W W') (hd : ∀ g, v.ownBlock = some g → ¬ S g) : W'.ownsRow base e size v n xs := by
  refine ⟨o.1, o.2.imp id ?_⟩
  rintro ⟨g, cap, cur, e1, b1, b2, b3⟩
  refine ⟨g, cap, cur, e1, b1, ?_, b3⟩
  have hg : g < W.heap.size := by
    rcases Nat.lt_or_ge g W.heap.size with c | c
    · exact c
    · rw [Array.getElem?_eq_none c] at b2; cases b2
  rw [k.block g hg (hd g (by rw [e1]; rfl))]
  exact b2
theorem chg_grow {w w' : World} {row : Option Nat} (h : w.grownBy w' row) : Chg (fun b => row = some b) w w' :=
  ⟨h.os, h.tape, h.output, h.size, fun k hk hn => h.block k hk (fun c => hn c.symm)⟩
theorem isO_take {outs : List Int} {i k : Nat} (hk : k < outs.length) (h : (outs.take k).any (fun o => o == (i : Int)) = false) (t : (outs.getD k 0 == (i : Int)) = false) : (outs.take (k + 1)).any (fun o => o == (i : Int)) = false := by
  rw [List.take_succ_eq_append_getElem hk, List.any_append, h]
  rw [List.getD_eq_getElem?_getD, List.getElem?_eq_getElem hk] at t
  simpa using t
set_option maxRecDepth 100000 in
set_option maxHeartbeats 2000000 in
theorem l4needed (w : World) (b1 b2 b3 : Option Addr) (n1 c1 n2 c2 n3 c3 i lo hi : Nat) (outs : List Int) (f : IS w lo hi b3 n3 outs) (hn : n3 ≤ 1000000) :
    Calls Tryz.prog 54 #[gagg b1 n1 c1 b2 n2 c2 b3 n3 c3, .int .i64 (i : Nat)] w fun e w' => e = .returned (.bool (isO outs i)) ∧ Kept 0 0 w w' := by
  have k0 := kept_alloc 0 0 w (gbox b1 n1 c1 b2 n2 c2 b3 n3 c3)
  have HB : Hid _ := g0_start w (.slice b1 n1 c1) (.slice b2 n2 c2) (.slice b3 n3 c3)
  have HF : Hid _ := f.keep k0 (.inr (.inr (Nat.le_refl _)))
  have HL : Hid (outs.length = n3) := f.len
  have HK : Hid _ := k0
  clear f k0
  go_enter Tryz.func54, Tryz.ntmps54
  go_wp2_with fail
  generalize w.alloc (gbox b1 n1 c1 b2 n2 c2 b3 n3 c3) = w1 at HB HF HK ⊢
  go_loop [5] (fun x => ∃ k : Nat, k ≤ n3 ∧ x = .int .i64 k ∧ Hid ((outs.take k).any (fun o => o == (i : Int)) = false)) (fun x => n3 - (intOf x).toNat)
  case atStart => exact ⟨0, Nat.zero_le _, rfl, rfl⟩
  case round =>
    obtain ⟨k, hk, rfl, hA⟩ := hrel
    obtain ⟨_, q0, q1, q2⟩ := HB.out
    by_cases hlt : k < n3
    · obtain ⟨g, off, m, rfl, em, hm, hg, c1'⟩ := HF.out.at_idx (o := k) (by omega) (by omega)
      obtain rfl : k = m := by omega
      rw [Int.toNat_natCast] at c1'
      cases t : (outs.getD k 0 == (i : Int))
      · have R : Hid _ := isO_take (by rw [HL.out]; exact hlt) hA.out t
        generalize outs.getD k 0 = x at c1' t
        clear hA
        go_wp2
        go_round
        case rel => exact ⟨k + 1, by omega, by go_num, R⟩
        case measure => simp [intOf]; omega
      · have R : Hid (isO outs i = true) := by
          show _ = _
          unfold isO
          rw [List.any_eq_true]
          exact ⟨outs.getD k 0, getD_memJ (by rw [HL.out]; exact hlt), t⟩
        generalize outs.getD k 0 = x at c1' t
        clear hA
        go_wp2
        go_ret
        exact ⟨by rw [R.out]; rfl, HK.out⟩
    · obtain rfl : k = n3 := by omega
      have R : Hid (isO outs i = false) := by
        have := hA.out
        rw [List.take_of_length_le (by rw [HL.out]; omega)] at this
        exact this
      clear hA
      go_wp2
      go_ret
      exact ⟨by rw [R.out]; rfl, HK.out⟩
end Go.Proofs.YtcphabjekfihnabGreat

namespace Go.Proofs.YtcphabjekfihnabGreat
open Go.RowKit Flt
attribute [local go_sem] alloc_drewN setCell_drewN run_store_float

/-- 'append(nil, x...)', x nil or not. -/
theorem wpList_append_src {P : Program} (w : World) {ops : Array Oper} {rest : List Oper} {o : Oper} {a : Act} {Q : Exit → Act → World → Prop} (hgd : o.guard = none) (s x : Operand) (t : TypeId)
    (ho : o.op = .call { callee := .builtin .append, args := #[s, x], argTypes := #[t, t] })
    (base : Nat) (e : TypeId) (i : TypeInfo) (z : Value) (size bytes : Nat) (ht : P.underlying t = some (.slice e)) (hi : P.info? e = some i) (hz : i.zero = some z)
    (hsize : i.size = size) (hby : i.bytes = bytes) (hzs : z.cells.size = size) (hsz : 0 < size) (hs : a.eval s = .slice none 0 0)
    (b : Option Addr) (m c : Nat) (news : List Value) (hx : a.eval x = .slice b m c) (hl : news.length = m * size) (hsrc : (b = none ∧ m = 0) ∨ ∃ ad, b = some ad ∧ ∀ j u, news[j]? = some u → w.cell? (ad.add j) = some u) (h1 : ∀ u ∈ news, u.oneCell' = true)
    (h63 : m ≤ maxLen) (hbytes : m * bytes ≤ 140737488355328) (hbase : base ≤ w.heap.size)
    (h : ∀ v' w', w'.ownsRow base e size v' m news → w.grownBy w' none → wpList P ops Q rest (a.put o.dst v') w') : wpList P ops Q (o :: rest) a w := by
  rcases hsrc with ⟨rfl, rfl⟩ | ⟨ad, rfl, hn⟩
  · have hnil : news = [] := List.length_eq_zero_iff.1 (by rw [hl]; omega)
    subst hnil
    have hr : (Builtin.append_ #[t, t] o.type #[.slice none 0 0, .slice none 0 c]).run P w = .ok (.slice none 0 0) w := by
      simp [Builtin.append_, run_underlying ht, sizeOf, typeInfo, hi, Builtin.lenOf, run_firstCells_none]
    refine wpList_plain hgd fun _ hK => ?_
    unfold Oper.wp execOp
    simp only [ho, resolve, invoke, builtin, Sem.run_bind, Sem.run_pure, Result.andThen_ok, List.map_toArray, List.map_cons, List.map_nil, hs, hx, hr]
    exact hK _ _ (h _ _ (World.ownsRow_nil w base e size) ⟨rfl, rfl, rfl, Nat.le_refl _, fun _ _ _ => rfl⟩)
  · refine wpList_append_own w hgd s x t ho base e i z size bytes ht hi hz hsize hby hzs hsz (.slice none 0 0) 0 [] hs (World.ownsRow_nil w base e size) ad m c news hx hl hn h1 (by omega) (by rw [Nat.zero_add]; exact hbytes) hbase ?_
    intro v' w' q1 q2 _
    rw [Nat.zero_add, List.nil_append] at q1
    exact h v' w' q1 q2
theorem add_addr (g off j : Nat) : (⟨g, off, none⟩ : Addr).add j = ⟨g, off + j, none⟩ := by
  simp [Addr.add_lit]
theorem srcI {w : World} {lo hi n : Nat} {b : Option Addr} {xs : List Int} (h : IS w lo hi b n xs) : (b = none ∧ n = 0) ∨ ∃ ad, b = some ad ∧ ∀ j u, (xs.map (Value.int .i64))[j]? = some u → w.cell? (ad.add j) = some u := by
  have hl := h.len
  rcases h.at_ with z | ⟨g, off, rfl, _, _, _, hc⟩
  · subst z
    have : xs = [] := List.length_eq_zero_iff.1 hl
    subst this
    cases b
    · exact .inl ⟨rfl, rfl⟩
    · exact .inr ⟨_, rfl, fun j u hu => by simp at hu⟩
  · refine .inr ⟨_, rfl, fun j u hu => ?_⟩
    have hj : j < n := by
      rcases Nat.lt_or_ge j n with c | c
      · exact c
      · rw [List.getElem?_eq_none (by simp; omega)] at hu; cases hu
    rw [add_addr, hc j hj]
    rw [List.getElem?_map, List.getElem?_eq_getElem (by omega : j < xs.length)] at hu
    simp only [Option.map_some] at hu
    rw [← hu, List.getD_eq_getElem?_getD, List.getElem?_eq_getElem (by omega : j < xs.length)]; rfl
theorem srcV {w : World} {lo hi n : Nat} {b : Option Addr} {vs : List Vl} (h : VS w lo hi b n vs) : (b = none ∧ n = 0) ∨ ∃ ad, b = some ad ∧ ∀ j u, (flat vs)[j]? = some u → w.cell? (ad.add j) = some u := by
  have hl := h.len
  rcases h.at_ with z | ⟨g, off, rfl, _, _, _, hc⟩
  · subst z
    have : vs = [] := List.length_eq_zero_iff.1 hl
    subst this
    cases b
    · exact .inl ⟨rfl, rfl⟩
    · exact .inr ⟨_, rfl, fun j u hu => by simp [flat] at hu⟩
  · refine .inr ⟨_, rfl, fun j u hu => ?_⟩
    have hj : j < n * 6 := by
      rcases Nat.lt_or_ge j (n * 6) with c | c
      · exact c
      · rw [List.getElem?_eq_none (by rw [flat_len]; omega)] at hu; cases hu
    have ej : j = j / 6 * 6 + j % 6 := by omega
    have hk : j / 6 < n := by omega
    rw [ej, flat_at vs (j / 6) (j % 6) (by omega) (by omega)] at hu
    rw [add_addr]
    obtain ⟨c0, c1, c2, c3, c4, c5⟩ := hc (j / 6) hk
    have e : off + j = off + j / 6 * 6 + j % 6 := by omega
    rw [e]
    have : j % 6 = 0 ∨ j % 6 = 1 ∨ j % 6 = 2 ∨ j % 6 = 3 ∨ j % 6 = 4 ∨ j % 6 = 5 := by omega
    rcases this with h | h | h | h | h | h
    all_goals
      rw [h] at hu ⊢
      simp [Vl.cells] at hu
      subst hu
    · rw [Nat.add_zero]; exact c0
    · exact c1
    · exact c2
    · exact c3
    · exact c4
    · exact c5
set_option maxRecDepth 100000 in
set_option maxHeartbeats 2000000 in
theorem l2copyIntsS (w : World) (lo hi' : Nat) (b : Option Addr) (n c : Nat) (xs : List Int) (hn2 : n ≤ 1000000) (h : IS w lo hi' b n xs) :
    Calls Tryz.prog 55 #[.slice b n c] w fun e w' => ∃ a cap, e = .returned (.slice a n cap) ∧ w'.ownsRow w.heap.size 3 1 (.slice a n cap) n (xs.map (Value.int .i64)) ∧ Kept 0 0 w w' := by
  obtain ⟨i0, hi, hz0, hz1, hz2⟩ := info_parts infoI
  have HN : Hid _ := srcI h
  have HX : Hid (xs.length = n) := h.len
  clear h
  go_enter Tryz.func55, Tryz.ntmps55
  go_wp2_with (first | (at_builtin; refine wpList_append_src _ rfl _ _ 22 rfl w.heap.size 3 i0 (.int .i64 0) 1 8 Tryz.underlying22 hi hz0 hz1 hz2 rfl (by decide) rfl b n c (xs.map (Value.int .i64)) rfl ?c0 HN.out ?c2 ?c3 ?c4 ?c5 ?_))
  case c0 => rw [List.length_map, HX.out, Nat.mul_one]
  case c2 => intro u hu; obtain ⟨x, _, rfl⟩ := List.mem_map.1 hu; rfl
  case c3 => unfold maxLen; omega
  case c4 => omega
  case c5 => exact Nat.le_refl _
  intro v' w9 hown9 hg9
  obtain ⟨a, cap, rfl⟩ := own_form hown9
  have R : Hid _ := grown_keptJ (base := w.heap.size) hg9 (fun k hk => by cases hk) (Kept.refl 0 0 w) (Nat.le_refl _)
  have R2 : Hid _ := hown9
  clear hown9 hg9
  go_wp2
  go_ret
  exact ⟨a, cap, rfl, R2.out, R.out⟩
end Go.Proofs.YtcphabjekfihnabGreat

namespace Go.Proofs.YtcphabjekfihnabGreat
open Go.RowKit Flt
attribute [local go_sem] alloc_drewN setCell_drewN run_store_float

set_option maxRecDepth 100000 in
set_option maxHeartbeats 4000000 in
theorem l2copyS (w : World) (b1 b2 b3 : Option Addr) (n1 c1 n2 c2 n3 c3 : Nat) (ins : List Int) (vs : List Vl) (outs : List Int) (f : GS w b1 n1 b2 n2 b3 n3 ins vs outs) (l1 : n1 ≤ 1000000) (l2 : n2 ≤ 1000000) (l3 : n3 ≤ 1000000) :
    Calls Tryz.prog 40 #[gagg b1 n1 c1 b2 n2 c2 b3 n3 c3] w fun e w' => ∃ a1 d1 a2 d2 a3 d3, e = .returned (gagg a1 n1 d1 a2 n2 d2 a3 n3 d3) ∧ w'.ownsRow w.heap.size 3 1 (.slice a1 n1 d1) n1 (ins.map (Value.int .i64)) ∧ w'.ownsRow w.heap.size 59 6 (.slice a2 n2 d2) n2 (flat vs) ∧ w'.ownsRow w.heap.size 3 1 (.slice a3 n3 d3) n3 (outs.map (Value.int .i64)) ∧
      (Apart (.slice a2 n2 d2) (.slice a1 n1 d1) ∧ Apart (.slice a2 n2 d2) (.slice a3 n3 d3) ∧ Apart (.slice a1 n1 d1) (.slice a3 n3 d3)) ∧ Kept 0 0 w w' := by
  obtain ⟨i0, hi, hz0, hz1, hz2⟩ := info_parts infoV
  have k1 := kept_alloc 0 0 w (gbox b1 n1 c1 b2 n2 c2 b3 n3 c3)
  have k2 := kept_alloc 0 0 (w.alloc (gbox b1 n1 c1 b2 n2 c2 b3 n3 c3)) nbox
  have HB : Hid _ := (g0_start w (.slice b1 n1 c1) (.slice b2 n2 c2) (.slice b3 n3 c3)).keep k2
  have hN := rb_start (w.alloc (gbox b1 n1 c1 b2 n2 c2 b3 n3 c3))
  rw [show (w.alloc (gbox b1 n1 c1 b2 n2 c2 b3 n3 c3)).heap.size = w.heap.size + 1 by simp] at hN
  have HR : Hid _ := hN
  have HK : Hid _ := k1.trans k2
  have HI1 : Hid _ := f.i.keep (k1.trans k2) (.inr (.inr (Nat.le_refl _)))
  have HI2 : Hid _ := f.v.keep (k1.trans k2) (.inr (.inr (Nat.le_refl _)))
  have HI3 : Hid _ := f.o.keep (k1.trans k2) (.inr (.inr (Nat.le_refl _)))
  clear f hN k1 k2
  obtain ⟨_, q0, q1, q2⟩ := HB.out
  go_enter Tryz.func40, Tryz.ntmps40
  go_upto_region 2 with fail
  generalize (w.alloc (gbox b1 n1 c1 b2 n2 c2 b3 n3 c3)).alloc nbox = w2 at HB HR HK HI1 HI2 HI3 q0 q1 q2 ⊢
  have HN : Hid _ := srcV HI2.out
  go_wp2_with (first | (at_builtin; refine wpList_append_src _ rfl _ _ 27 rfl w2.heap.size 59 i0 (vagg 0 0 0 0 0 0) 6 48 Tryz.underlying27 hi hz0 hz1 hz2 rfl (by decide) rfl b2 n2 c2 (flat vs) rfl ?c0 HN.out ?c2 ?c3 ?c4 ?c5 ?_))
  case c0 => rw [flat_len, HI2.out.len]
  case c2 => exact oneF vs
  case c3 => unfold maxLen; omega
  case c4 => omega
  case c5 => exact Nat.le_refl _
  intro v' w3 hown3 hg3
  obtain ⟨a2, d2, rfl⟩ := own_form hown3
  have k3 := grown_keptJ (base := w2.heap.size) hg3 (fun k hk => by cases hk) (Kept.refl 0 0 w2) (Nat.le_refl _)
  have HO2 : Hid _ := hown3
  have HK3 : Hid _ := k3
  clear hown3 hg3 HN q0 q1 q2 k3
  obtain ⟨_, q0, q1, q2⟩ := G0.keep HB.out HK3.out
  have hI1 := IS.keep HI1.out HK3.out (.inr (.inr (Nat.le_refl _)))
  have HJ1 : Hid _ := hI1
  have HJ3 : Hid _ := IS.keep HI3.out HK3.out (.inr (.inr (Nat.le_refl _)))
  have HB3 : Hid _ := G0.keep HB.out HK3.out
  have HR3 : Hid _ := RB.keep HR.out HK3.out
  have HQ : Hid (w.heap.size + 1 < w2.heap.size ∧ w.heap.size ≤ w2.heap.size ∧ w2.heap.size ≤ w3.heap.size) := ⟨HR.out.sz, HK.out.size, HK3.out.size⟩
  clear hI1 HB HR HI1 HI2 HI3
  go_wp2_with fail
  go_region_held3 (fun w' => w'.cell? ⟨w.heap.size, 0, none⟩ = some (.slice b1 n1 c1) ∧ w'.cell? ⟨w.heap.size, 2, none⟩ = some (.slice b3 n3 c3)) (first | go_keep | (simp only [cell3c _ _ _ _ _ _ _ hne]; exact ⟨r0, r2⟩))
    (first
      | (go_at_call 55; refine Calls.mono (l2copyIntsS w4 _ _ b3 n3 c3 outs l3 (IS.keep HJ3.out kk1 (.inr (.inr (Nat.le_refl _))))) ?_; rintro e w5 ⟨a3, d3, rfl, o3, k5⟩; have kk2 := Kept.trans kk1 k5; obtain ⟨_, r0, r1, r2⟩ := G0.keep HB3.out kk2; obtain ⟨_, t0, t1, t2, x0, x1, x2⟩ := RB.keep HR3.out kk2; have hne : w.heap.size ≠ w.heap.size + 1 := by omega)
      | (go_at_call 55; refine Calls.mono (l2copyIntsS (w3.drewN 1) _ _ b1 n1 c1 ins l1 (IS.keep HJ1.out (kept_drewN 0 0 w3 1) (.inr (.inr (Nat.le_refl _))))) ?_; rintro e w4 ⟨a1, d1, rfl, o1, k4⟩; have kk1 := Kept.trans (kept_drewN 0 0 w3 1) k4; obtain ⟨_, s0, s1, s2⟩ := G0.keep HB3.out kk1))
  go_wp2_with fail
  obtain ⟨y0, y1, y2⟩ := put3_0 w5 (w.heap.size + 1) _ _ _ t0 t1 t2 (.slice a1 n1 d1) (.slice a2 n2 d2) (.slice a3 n3 d3)
  have kp := put3_kept w5 (w.heap.size + 1) (.slice a1 n1 d1) (.slice a2 n2 d2) (.slice a3 n3 d3)
  have hz3 : (w3.drewN 1).heap.size = w3.heap.size := rfl
  have hz4 := k4.size
  have hQ := HQ.out
  have key : ∀ {b e size n : Nat} {v : Value} {xs : List Value} {W : World}, W.ownsRow b e size v n xs → w2.heap.size ≤ b → Kept 0 0 W w5 → (((w5.setCell ⟨w.heap.size + 1, 0, none⟩ (.slice a1 n1 d1)).setCell ⟨w.heap.size + 1, 1, none⟩ (.slice a2 n2 d2)).setCell ⟨w.heap.size + 1, 2, none⟩ (.slice a3 n3 d3)).ownsRow w.heap.size e size v n xs := fun h hb k =>
    own_mono (own_keepR (own_keepJ h k) kp (fun g hg => by have := (own_blkV h hg).1; omega)) (by omega)
  refine bodyPost_ret (v := gagg a1 n1 d1 a2 n2 d2 a3 n3 d3) (by simp [results, Tryz.results40, go_sem, y0, y1, y2]) rfl ⟨a1, d1, a2, d2, a3, d3, rfl, key o1 (by omega) k5, key HO2.out (Nat.le_refl _) kk2, key o3 (by omega) (Kept.refl 0 0 _), ⟨apart_of HO2.out o1 (by omega), apart_of HO2.out o3 (by omega), apart_of o1 o3 (Nat.le_refl _)⟩, Kept.new ((HK.out.trans HK3.out).trans kk2) kp (by omega)⟩

end Go.Proofs.YtcphabjekfihnabGreat

namespace Go.Proofs.YtcphabjekfihnabGreat
open Go.RowKit Flt
attribute [local go_sem] alloc_drewN setCell_drewN run_store_float

theorem ndS_step {vs : List Vl} {outs : List Int} {k : Nat} {b : Bool} (hb : (ndG outs (ndS vs outs k) (vs.length - 1 - k)).getD (vs.length - 1 - k) false = b) : ndS vs outs (k + 1) = if b = true then setAll (ndG outs (ndS vs outs k) (vs.length - 1 - k)) (opsOf (vs.getD (vs.length - 1 - k) Vl.zero)) else ndG outs (ndS vs outs k) (vs.length - 1 - k) := by
  rw [ndS, hb]
theorem setAll_true {F : List Bool} {os : List Int} {i : Nat} (h : F.getD i false = true) : (setAll F os).getD i false = true := by
  have hi : i < F.length := by
    rcases Nat.lt_or_ge i F.length with c | c
    · exact c
    · rw [List.getD_eq_getElem?_getD, List.getElem?_eq_none c] at h; cases h
  rw [setAll_at _ _ _ hi, h, Bool.true_or]
end Go.Proofs.YtcphabjekfihnabGreat
