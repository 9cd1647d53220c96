import Derived.Test.YtdkjdlimcnddkaaA13
import Derived.Test.YtdkjdlimcnddkaaA12
import Derived.Test.YtdkjdlimcnddkaaA25
import Derived.Test.YtdkjdlimcnddkaaA16
import Derived.Deep.AppendLies
import Derived.Deep.RegionHeld3
namespace Go.Proofs.Ytdkjdlimcnddkaa
open Go.RowKit Flt
attribute [local go_sem] alloc_drewN setCell_drewN run_store_float

/-- A count as two bytes. -/
def cntB (v : Int) : List Int := [v % 256, v / 256]
/-- The k lowest bytes of a number. -/
def bytesN (b : Nat) : Nat → List Int
  | 0 => []
  | k + 1 => bytesN b k ++ [((b / 256 ^ k % 256 : Nat) : Int)]
def fieldsOf (s : Ste) : List Int := [s.len, s.n, s.dst, s.a, s.b, s.c]
def steB (s : Ste) : List Int := [s.op] ++ (fieldsOf s).flatMap cntB ++ (if s.op = 1 then bytesN (fb s.k) 8 else [])
def spnB (p : Spn) : List Int := cntB p.off ++ cntB p.len
/-- The bytes of a code. -/
def saveM (ins : List Int) (ss : List Ste) (os : List Spn) (pk : Int) : List Int :=
  [71, 76] ++ cntB ins.length ++ ins.flatMap cntB ++ cntB ss.length ++ ss.flatMap steB ++ cntB os.length ++ os.flatMap spnB ++ cntB pk
theorem cntB_len (v : Int) : (cntB v).length = 2 := rfl
theorem bytesN_len (b : Nat) : ∀ k, (bytesN b k).length = k
  | 0 => rfl
  | k + 1 => by rw [bytesN, List.length_append, bytesN_len b k]; rfl
theorem flat_cnt_len (xs : List Int) : (xs.flatMap cntB).length = 2 * xs.length := by
  induction xs with
  | nil => rfl
  | cons x r ih => rw [List.flatMap_cons, List.length_append, cntB_len, ih, List.length_cons]; omega
theorem flatMap_takeS {α β : Type} (f : α → List β) (xs : List α) (z : α) {k : Nat} (h : k < xs.length) : (xs.take (k + 1)).flatMap f = (xs.take k).flatMap f ++ f (xs.getD k z) := by
  rw [List.take_succ_eq_append_getElem h, List.flatMap_append, List.flatMap_singleton]
  rw [List.getD_eq_getElem?_getD, List.getElem?_eq_getElem h]; rfl
theorem steB_len (s : Ste) : (steB s).length = 13 + (if s.op = 1 then 8 else 0) := by
  unfold steB fieldsOf
  simp only [List.length_append, flat_cnt_len, List.length_cons, List.length_nil]
  split
  · rw [bytesN_len]
  · rfl
theorem flat_ste_len (ss : List Ste) : (ss.flatMap steB).length ≤ 21 * ss.length := by
  induction ss with
  | nil => simp
  | cons x r ih => rw [List.flatMap_cons, List.length_append, steB_len, List.length_cons]; split <;> omega
theorem flat_spn_len (os : List Spn) : (os.flatMap spnB).length = 4 * os.length := by
  induction os with
  | nil => rfl
  | cons x r ih => rw [List.flatMap_cons, List.length_append, ih, List.length_cons]; unfold spnB; rw [List.length_append, cntB_len, cntB_len]; omega

/-- A row of bytes that is grown by append. -/
def YB (W : World) (B : Nat) (v : Value) (bs : List Int) : Prop := W.ownsRow B 5 1 v bs.length (bs.map (Value.int .u8))
theorem YB.keepC {W W' : World} {S : Nat → Prop} {B : Nat} {v : Value} {bs : List Int} (f : YB W B v bs) (k : Chg S W W') (hd : ∀ g, v.ownBlock = some g → ¬ S g) : YB W' B v bs := own_keepC f k hd
theorem YB.keep {W W' : World} {B : Nat} {v : Value} {bs : List Int} (f : YB W B v bs) (k : Kept 0 0 W W') : YB W' B v bs := own_keepJ f k
theorem YB.blk {W : World} {B : Nat} {v : Value} {bs : List Int} (f : YB W B v bs) {g : Nat} (h : v.ownBlock = some g) : B ≤ g ∧ g < W.heap.size := own_blkV f h
theorem YB.nil (W : World) (B : Nat) : YB W B (.slice none 0 0) [] := World.ownsRow_nil _ _ _ _
theorem YB.lit (w : World) (B : Nat) (bs : List Int) (cs : Array Value) (n : Nat) (hc : cs.toList = bs.map (Value.int .u8)) (hn : bs.length = n) (hb : B ≤ w.heap.size) (hm : n ≤ 1000000) : YB (w.alloc (.cells cs 5)) B (.slice (some ⟨w.heap.size, 0, none⟩) n n) bs := by
  unfold YB
  have hs : cs.size = n := by rw [← Array.length_toList, hc, List.length_map, hn]
  have := World.ownsRow_lit (base := B) (e := 5) (size := 1) w cs n hb (by unfold maxLen; omega) (by rw [hs, Nat.mul_one])
  rw [hn, ← hc]
  exact this
theorem newsY {w : World} {ad : Addr} {ys : List Int} (h : ∀ j, j < ys.length → w.cell? (ad.add j) = some (.int .u8 (ys.getD j 0))) : ∀ j u, (ys.map (Value.int .u8))[j]? = some u → w.cell? (ad.add j) = some u := by
  intro j u hu
  by_cases hj : j < ys.length
  · rw [h j hj]
    rw [List.getElem?_map, List.getElem?_eq_getElem hj] at hu
    simp only [Option.map_some] at hu
    rw [← hu, List.getD_eq_getElem?_getD, List.getElem?_eq_getElem hj]; rfl
  · rw [List.getElem?_eq_none (by simp; omega)] at hu; cases hu
theorem wpList_appendY (w : World) {ops : Array Oper} {rest : List Oper} {o : Oper} {a : Act} {Q : Exit → Act → World → Prop} (hgd : o.guard = none) (s x : Operand)
    (ho : o.op = .call { callee := .builtin .append, args := #[s, x], argTypes := #[50, 50] })
    (B : Nat) (v : Value) (bs : List Int) (hs : a.eval s = v) (hown : YB w B v bs)
    (ad : Addr) (m c : Nat) (ys : List Int) (hx : a.eval x = .slice (some ad) m c) (hl : ys.length = m) (hnews : ∀ j, j < ys.length → w.cell? (ad.add j) = some (.int .u8 (ys.getD j 0)))
    (hm : 0 < m) (h63 : bs.length + m ≤ 100000000) (hbase : B ≤ w.heap.size)
    (h : ∀ g cap n w', n = (bs ++ ys).length → YB w' B (.slice (some ⟨g, 0, none⟩) n cap) (bs ++ ys) → Chg (fun b => v.ownBlock = some b) w w' → (v.ownBlock = some g ∨ g = w.heap.size) → wpList Try.prog ops Q rest (a.put o.dst (.slice (some ⟨g, 0, none⟩) n cap)) w') : wpList Try.prog ops Q (o :: rest) a w := by
  obtain ⟨i0, hi, hz0, hz1, hz2⟩ := info_parts infoY
  refine wpList_append_lies w hgd s x 50 ho B 5 i0 (.int .u8 0) 1 1 Try.underlying50 hi hz0 hz1 hz2 rfl (by decide) v bs.length _ hs hown ad m c (ys.map (Value.int .u8)) hx (by rw [List.length_map, hl, Nat.mul_one]) (newsY hnews) ?_ hm (by unfold maxLen; omega) (by omega) hbase _ rfl ?_
  · intro u hu; obtain ⟨x, _, rfl⟩ := List.mem_map.1 hu; rfl
  · intro g cap w' h1 h2 h3 _
    have e : bs.length + m = (bs ++ ys).length := by rw [List.length_append, hl]
    rw [e] at h1 ⊢
    refine h g cap _ w' rfl ?_ (chg_grow h2) h3
    unfold YB
    rw [List.map_append]
    exact h1
theorem step_appendY (w : World) {ops : Array Oper} {o : Oper} {a : Act} {K : Act → World → Prop} {Q : Exit → Act → World → Prop} {E : Prop} (hgd : o.guard = none) (s x : Operand)
    (ho : o.op = .call { callee := .builtin .append, args := #[s, x], argTypes := #[50, 50] })
    (B : Nat) (v : Value) (bs : List Int) (hs : a.eval s = v) (hown : YB w B v bs)
    (ad : Addr) (m c : Nat) (ys : List Int) (hx : a.eval x = .slice (some ad) m c) (hl : ys.length = m) (hnews : ∀ j, j < ys.length → w.cell? (ad.add j) = some (.int .u8 (ys.getD j 0)))
    (hm : 0 < m) (h63 : bs.length + m ≤ 100000000) (hbase : B ≤ w.heap.size)
    (h : ∀ g cap n w', n = (bs ++ ys).length → YB w' B (.slice (some ⟨g, 0, none⟩) n cap) (bs ++ ys) → Chg (fun b => v.ownBlock = some b) w w' → (v.ownBlock = some g ∨ g = w.heap.size) → K (a.put o.dst (.slice (some ⟨g, 0, none⟩) n cap)) w') :
    if Region.wanted o (yielded ops a.tmps) = true then Oper.wp Try.prog o a w K Q else E := by
  obtain ⟨i0, hi, hz0, hz1, hz2⟩ := info_parts infoY
  refine step_append_lies w hgd s x 50 ho B 5 i0 (.int .u8 0) 1 1 Try.underlying50 hi hz0 hz1 hz2 rfl (by decide) v bs.length _ hs hown ad m c (ys.map (Value.int .u8)) hx (by rw [List.length_map, hl, Nat.mul_one]) (newsY hnews) ?_ hm (by unfold maxLen; omega) (by omega) hbase _ rfl ?_
  · intro u hu; obtain ⟨x, _, rfl⟩ := List.mem_map.1 hu; rfl
  · intro g cap w' h1 h2 h3 _
    have e : bs.length + m = (bs ++ ys).length := by rw [List.length_append, hl]
    rw [e] at h1 ⊢
    refine h g cap _ w' rfl ?_ (chg_grow h2) h3
    unfold YB
    rw [List.map_append]
    exact h1
end Go.Proofs.Ytdkjdlimcnddkaa

namespace Go.Proofs.Ytdkjdlimcnddkaa
open Go.RowKit Flt
attribute [local go_sem] alloc_drewN setCell_drewN run_store_float

theorem YB.at_ {W : World} {B : Nat} {v : Value} {bs : List Int} (f : YB W B v bs) (h : 0 < bs.length) : ∃ g cap, v = .slice (some ⟨g, 0, none⟩) bs.length cap ∧ B ≤ g ∧ g < W.heap.size ∧ ∀ j, j < bs.length → W.cell? ⟨g, j, none⟩ = some (.int .u8 (bs.getD j 0)) := by
  rcases f.2 with ⟨_, c⟩ | ⟨g, cap, cur, e, b1, b2, b3, _, b5, b6⟩
  · omega
  · have hg : g < W.heap.size := by
      rcases Nat.lt_or_ge g W.heap.size with c | c
      · exact c
      · rw [Array.getElem?_eq_none c] at b2; cases b2
    refine ⟨g, cap, e, b1, hg, fun j hj => ?_⟩
    rw [cell_of_row W g _ cur _ _ b2, ← Array.getElem?_toList]
    have : (cur.toList.take (bs.length * 1))[j]? = (bs.map (Value.int .u8))[j]? := by rw [b6]
    rw [List.getElem?_take_of_lt (by omega)] at this
    rw [this, List.getElem?_map, List.getElem?_eq_getElem hj, List.getD_eq_getElem?_getD, List.getElem?_eq_getElem hj]; rfl
theorem newsA (w : World) (cs : Array Value) (ys : List Int) (hc : cs.toList = ys.map (Value.int .u8)) : ∀ j, j < ys.length → (w.alloc (.cells cs 5)).cell? ((⟨w.heap.size, 0, none⟩ : Addr).add j) = some (.int .u8 (ys.getD j 0)) := by
  intro j hj
  rw [add_addr, Nat.zero_add, World.cell?_alloc_new, ← Array.getElem?_toList, hc, List.getElem?_map, List.getElem?_eq_getElem hj, List.getD_eq_getElem?_getD, List.getElem?_eq_getElem hj]
  rfl
theorem news0 {w : World} {g : Nat} {ys : List Int} (h : ∀ j, j < ys.length → w.cell? ⟨g, j, none⟩ = some (.int .u8 (ys.getD j 0))) : ∀ j, j < ys.length → w.cell? ((⟨g, 0, none⟩ : Addr).add j) = some (.int .u8 (ys.getD j 0)) := fun j hj => by
  rw [add_addr, Nat.zero_add]; exact h j hj
/-- What a function says that grows a row of bytes. -/
def Grew (w : World) (B : Nat) (v : Value) (bs : List Int) (e : Ending) (w' : World) : Prop :=
  ∃ v', e = .returned v' ∧ YB w' B v' bs ∧ Chg (fun b => v.ownBlock = some b) w w' ∧ ∀ g, v'.ownBlock = some g → v.ownBlock = some g ∨ w.heap.size ≤ g
/-- A round of growth. -/
theorem grow_round {w W W1 W9 : World} {S : Nat → Prop} {u : Value} {g n cap : Nat} (hC : Chg S w W) (hG : ∀ g, u.ownBlock = some g → S g ∨ w.heap.size ≤ g) (k : Kept 0 0 W W1) (h9 : Chg (fun b => u.ownBlock = some b) W1 W9) (ha : u.ownBlock = some g ∨ g = W.heap.size + 1) :
    Chg S w W9 ∧ ∀ h, (Value.slice (some ⟨g, 0, none⟩) n cap).ownBlock = some h → S h ∨ w.heap.size ≤ h := by
  have h1 := hC.size
  have h2 := k.size
  refine ⟨Chg.new (Chg.trans hC k.chg) h9 (fun i hi hb => ?_), fun h hh => ?_⟩
  · rcases hG i hb with c | c
    · exact c
    · omega
  · simp [Value.ownBlock] at hh
    subst hh
    rcases ha with c | c
    · exact hG g c
    · right; omega
set_option maxRecDepth 100000 in
set_option maxHeartbeats 2000000 in
theorem withCounts (w : World) (B : Nat) (v : Value) (bs xs : List Int) (a : Option Addr) (m c lo hi : Nat) (f : YB w B v bs) (x : IS w lo hi a m xs) (hd : ∀ g, lo ≤ g → g < hi → ¬ v.ownBlock = some g) (hx : ∀ y ∈ xs, 0 ≤ y ∧ y < 65536) (hb : bs.length ≤ 1000000) (hm : m ≤ 1000000) (hB : B ≤ w.heap.size) :
    Calls Try.prog 65 #[v, .slice a m c] w (Grew w B v (bs ++ xs.flatMap cntB)) := by
  have HX : Hid _ := x
  have HD : Hid _ := hd
  have HY : Hid (∀ k, k < m → 0 ≤ xs.getD k 0 ∧ xs.getD k 0 < 65536) := fun k hk => hx _ (getD_memJ (by rw [x.len]; exact hk))
  have HF : Hid _ := f
  have HL : Hid (xs.length = m) := x.len
  clear x hd hx f
  go_enter Try.func65, Try.ntmps65
  go_wp2_with fail
  go_loopw [0, 9] (fun b i W => ∃ k : Nat, k ≤ m ∧ i = .int .i64 k ∧ Hid (YB W B b (bs ++ (xs.take k).flatMap cntB)) ∧ Hid (Chg (fun g => v.ownBlock = some g) w W) ∧ Hid (∀ g, b.ownBlock = some g → v.ownBlock = some g ∨ w.heap.size ≤ g)) (fun _ i _ => m - (intOf i).toNat)
  case atStart => exact ⟨0, Nat.zero_le _, rfl, by rw [List.take_zero, List.flatMap_nil, List.append_nil]; exact HF, (Kept.refl 0 0 w).chg, fun g h => .inl h⟩
  case round =>
    obtain ⟨k, hk, rfl, hR, hC, hG⟩ := hrel
    by_cases hlt : k < m
    · have hI := HX.out.keepC hC.out HD.out
      rcases hI.at_ with z | ⟨ga, off, rfl, z1, z2, z3, z4⟩
      · omega
      have c1 := z4 k hlt
      have hy := HY.out k hlt
      have HT : Hid _ := flatMap_takeS cntB xs 0 (by rw [HL.out]; exact hlt)
      generalize xs.getD k 0 = y at c1 hy HT
      have HLN : Hid ((bs ++ (xs.take k).flatMap cntB).length ≤ 3000000) := by
        show _ ≤ _
        rw [List.length_append, flat_cnt_len, List.length_take]; omega
      have HS : Hid _ := hC.out.size
      clear z1 z2 z3 z4 hI
      go_wp2_with (first | (at_builtin; refine wpList_appendY _ rfl _ _ rfl B _ _ rfl (YB.keep hR.out (kept_alloc 0 0 wr _)) ⟨wr.heap.size, 0, none⟩ 2 2 (cntB y) rfl rfl (newsA wr _ (cntB y) rfl) (by decide) ?c2 ?c3 ?_) | fail)
      case c2 => have := HLN.out; omega
      case c3 => have := HS.out; simp; omega
      intro g cap n9 w9 _ hR9 hC9 hG9
      have R1 : Hid _ := hR9
      have R2 : Hid _ := grow_round (n := n9) (cap := cap) hC.out hG.out (kept_alloc 0 0 wr _) hC9 hG9
      clear hR9 hC9 hG9
      try rw [List.append_assoc] at R1
      rw [← HT.out] at R1
      go_wp2_with fail
      go_roundw
      case rel => exact ⟨k + 1, by omega, by go_num, R1, R2.out.1, R2.out.2⟩
      case measure => simp [intOf]; omega
    · obtain rfl : k = m := by omega
      rw [List.take_of_length_le (by rw [HL.out]; exact Nat.le_refl _)] at hR
      go_wp2_with fail
      go_ret
      exact ⟨_, rfl, hR.out, hC.out, hG.out⟩
theorem byteN_div (b k : Nat) : b / 256 ^ k / 256 = b / 256 ^ (k + 1) := by rw [Nat.div_div_eq_div_mul, Nat.pow_succ]
theorem pow_cast (b k : Nat) : ((b / 256 ^ k : Nat) : Int) / 256 = ((b / 256 ^ (k + 1) : Nat) : Int) := by rw [← byteN_div]; omega
set_option maxRecDepth 100000 in
set_option maxHeartbeats 2000000 in
theorem withFloat (w : World) (B : Nat) (v : Value) (bs : List Int) (z : Nat) (hz : z < 18446744073709551616) (f : YB w B v bs) (hb : bs.length ≤ 10000000) (hB : B ≤ w.heap.size) :
    Calls Try.prog 66 #[v, .float .f64 z] w (Grew w B v (bs ++ bytesN (fb z) 8)) := by
  have HF : Hid _ := f
  have hq : fb z < 18446744073709551616 := by unfold fb; split <;> omega
  have HI : Hid _ := implBits z w
  clear f
  generalize fb z = q at hq HI ⊢
  go_enter Try.func66, Try.ntmps66
  go_wp2_with fail
  refine Calls.mono HI.out ?_
  rintro e w2 ⟨rfl, rfl⟩
  go_wp2_with fail
  go_loopw [0, 5, 8] (fun b x i W => ∃ k : Nat, k ≤ 8 ∧ i = .int .i64 k ∧ x = .int .u64 ((q / 256 ^ k : Nat) : Int) ∧ Hid (YB W B b (bs ++ bytesN q k)) ∧ Hid (Chg (fun g => v.ownBlock = some g) w2 W) ∧ Hid (∀ g, b.ownBlock = some g → v.ownBlock = some g ∨ w2.heap.size ≤ g)) (fun _ _ i _ => 8 - (intOf i).toNat)
  case atStart => exact ⟨0, Nat.zero_le _, rfl, by simp, by rw [bytesN, List.append_nil]; exact HF, (Kept.refl 0 0 w2).chg, fun g h => .inl h⟩
  case round =>
    obtain ⟨k, hk, rfl, rfl, hR, hC, hG⟩ := hrel
    have HQ : Hid _ := pow_cast q k
    by_cases hlt : k < 8
    · have HLN : Hid ((bs ++ bytesN q k).length ≤ 30000000) := by
        show _ ≤ _
        rw [List.length_append, bytesN_len]; omega
      have HS : Hid _ := hC.out.size
      have hle : q / 256 ^ k ≤ q := Nat.div_le_self _ _
      have HT : Hid (bytesN q (k + 1) = bytesN q k ++ [((q / 256 ^ k % 256 : Nat) : Int)]) := rfl
      obtain ⟨y, hy⟩ : ∃ y, y = q / 256 ^ k := ⟨_, rfl⟩
      rw [← hy] at HQ hle HT ⊢
      clear hy
      have e1 : ((y % 256 : Nat) : Int) = (y : Int) % 256 := by omega
      rw [e1] at HT
      clear e1
      go_wp2_with (first | (at_builtin; refine wpList_appendY _ rfl _ _ rfl B _ _ rfl (YB.keep hR.out (kept_alloc 0 0 wr _)) ⟨wr.heap.size, 0, none⟩ 1 1 [(y : Int) % 256] rfl rfl (newsA wr _ [(y : Int) % 256] rfl) (by decide) ?c2 ?c3 ?_) | fail)
      case c2 => have := HLN.out; omega
      case c3 => have := HS.out; simp; omega
      intro g cap n9 w9 _ hR9 hC9 hG9
      have R1 : Hid _ := hR9
      have R2 : Hid _ := grow_round (n := n9) (cap := cap) hC.out hG.out (kept_alloc 0 0 wr _) hC9 hG9
      clear hR9 hC9 hG9
      try rw [List.append_assoc] at R1
      rw [← HT.out] at R1
      go_wp2_with fail
      go_roundw
      case rel => exact ⟨k + 1, by omega, by go_num, by rw [HQ.out], R1, R2.out.1, R2.out.2⟩
      case measure => simp [intOf]; omega
    · obtain rfl : k = 8 := by omega
      clear HQ
      generalize q / 256 ^ 8 = y
      go_wp2_with fail
      go_ret
      exact ⟨_, rfl, hR.out, hC.out, hG.out⟩
set_option maxRecDepth 100000 in
set_option maxHeartbeats 2000000 in
theorem l6count (w : World) (v : Int) (h0 : 0 ≤ v) (h1 : v < 65536) :
    Calls Try.prog 111 #[.int .i64 v] w fun e w' => e = .returned (.slice (some ⟨w.heap.size, 0, none⟩) 2 2) ∧ w' = w.alloc (.cells #[.int .u8 (v % 256), .int .u8 (v / 256)] 5) := by
  go_enter Try.func111, Try.ntmps111
  go_wp2
  go_ret
  exact ⟨rfl, rfl⟩
set_option maxRecDepth 100000 in
set_option maxHeartbeats 2000000 in
theorem l6float (w : World) (z : Nat) (hz : z < 18446744073709551616) :
    Calls Try.prog 112 #[.float .f64 z] w fun e w' => ∃ g cap, e = .returned (.slice (some ⟨g, 0, none⟩) 8 cap) ∧ (∀ j, j < (bytesN (fb z) 8).length → w'.cell? ((⟨g, 0, none⟩ : Addr).add j) = some (.int .u8 ((bytesN (fb z) 8).getD j 0))) ∧ Kept 0 0 w w' := by
  have hq : fb z < 18446744073709551616 := by unfold fb; split <;> omega
  have HI : Hid _ := specBits z w hz
  generalize fb z = q at hq HI ⊢
  go_enter Try.func112, Try.ntmps112
  go_wp2_with fail
  refine Calls.mono HI.out ?_
  rintro e w2 ⟨rfl, rfl⟩
  go_wp2_with fail
  go_loopw [3, 4, 5] (fun x b i W => ∃ k : Nat, k ≤ 8 ∧ i = .int .i64 k ∧ x = .int .u64 ((q / 256 ^ k : Nat) : Int) ∧ Hid (YB W w2.heap.size b (bytesN q k)) ∧ Hid (Chg (fun g => False) w2 W) ∧ Hid (∀ g, b.ownBlock = some g → False ∨ w2.heap.size ≤ g)) (fun _ _ i _ => 8 - (intOf i).toNat)
  case atStart => exact ⟨0, Nat.zero_le _, rfl, by simp, YB.nil _ _, (Kept.refl 0 0 w2).chg, fun g h => by simp [Value.ownBlock] at h⟩
  case round =>
    obtain ⟨k, hk, rfl, rfl, hR, hC, hG⟩ := hrel
    have HQ : Hid _ := pow_cast q k
    by_cases hlt : k < 8
    · have HLN : Hid ((bytesN q k).length ≤ 30000000) := by
        show _ ≤ _
        rw [bytesN_len]; omega
      have HS : Hid _ := hC.out.size
      have hle : q / 256 ^ k ≤ q := Nat.div_le_self _ _
      have HT : Hid (bytesN q (k + 1) = bytesN q k ++ [((q / 256 ^ k % 256 : Nat) : Int)]) := rfl
      obtain ⟨y, hy⟩ : ∃ y, y = q / 256 ^ k := ⟨_, rfl⟩
      rw [← hy] at HQ hle HT ⊢
      clear hy
      have e1 : ((y % 256 : Nat) : Int) = (y : Int) % 256 := by omega
      rw [e1] at HT
      clear e1
      go_wp2_with (first | (at_builtin; refine wpList_appendY _ rfl _ _ rfl w2.heap.size _ _ rfl (YB.keep hR.out (kept_alloc 0 0 wr _)) ⟨wr.heap.size, 0, none⟩ 1 1 [(y : Int) % 256] rfl rfl (newsA wr _ [(y : Int) % 256] rfl) (by decide) ?c2 ?c3 ?_) | fail)
      case c2 => have := HLN.out; omega
      case c3 => have := HS.out; simp; omega
      intro g cap n9 w9 _ hR9 hC9 hG9
      have R1 : Hid _ := hR9
      have R2 : Hid _ := grow_round (n := n9) (cap := cap) hC.out hG.out (kept_alloc 0 0 wr _) hC9 hG9
      clear hR9 hC9 hG9
      rw [← HT.out] at R1
      go_wp2_with fail
      go_roundw
      case rel => exact ⟨k + 1, by omega, by go_num, by rw [HQ.out], R1, R2.out.1, R2.out.2⟩
      case measure => simp [intOf]; omega
    · obtain rfl : k = 8 := by omega
      clear HQ
      generalize q / 256 ^ 8 = y
      obtain ⟨g, cap, rfl, h1, h2, h3⟩ := hR.out.at_ (by rw [bytesN_len]; decide)
      have R1 : Hid _ := news0 h3
      have R2 : Hid _ := Chg.kept (Kept.refl 0 0 w2) hC.out (fun _ h => h.elim)
      rw [bytesN_len]
      clear h1 h2 h3
      go_wp2_with fail
      go_ret
      exact ⟨g, cap, rfl, fun j hj => R1.out j hj, R2.out⟩
end Go.Proofs.Ytdkjdlimcnddkaa


namespace Go.Proofs.Ytdkjdlimcnddkaa
open Go.RowKit Flt
attribute [local go_sem] alloc_drewN setCell_drewN run_store_float

/-- Every number of a code is two bytes long. -/
structure SvOK (ins : List Int) (ss : List Ste) (os : List Spn) (pk : Int) : Prop where
  li : ins.length ≤ 20
  ls : ss.length ≤ 2000
  lo : os.length ≤ 50
  i : ∀ y ∈ ins, 0 ≤ y ∧ y < 65536
  s : ∀ k, k < ss.length → (0 ≤ (ss.getD k Ste.zero).op ∧ (ss.getD k Ste.zero).op ≤ 13) ∧ ∀ y ∈ fieldsOf (ss.getD k Ste.zero), 0 ≤ y ∧ y < 65536
  o : ∀ k, k < os.length → (0 ≤ (os.getD k Spn.zero).off ∧ (os.getD k Spn.zero).off < 65536) ∧ 0 ≤ (os.getD k Spn.zero).len ∧ (os.getD k Spn.zero).len < 65536
  p : 0 ≤ pk ∧ pk < 65536
theorem hold_off {ss : List Ste} {n : Nat} {peak off len : Int} (h : holdB ss n peak off len = true) : 0 ≤ off ∧ off ≤ peak - len := by
  unfold holdB at h
  simp only [Bool.and_eq_true] at h
  exact of_decide_eq_true h.1
theorem svOK_of {ins : List Int} {ss : List Ste} {os : List Spn} {pk : Int} (h : verM ins ss os pk = true) : SvOK ins ss os pk := by
  unfold verM at h
  simp only [Bool.and_eq_true] at h
  obtain ⟨⟨hl, hs⟩, ho⟩ := h
  unfold limB at hl
  simp only [Bool.and_eq_true, decide_eq_true_eq] at hl
  obtain ⟨⟨⟨⟨h1, h2⟩, h3⟩, h4⟩, h5⟩ := hl
  refine ⟨h1, h2, h3, ?_, ?_, ?_, by omega⟩
  · intro y hy
    have := List.all_eq_true.1 h4 y hy
    have := of_decide_eq_true this
    omega
  · intro k hk
    have hb := step_bounds h5.2 hs k hk
    have h6 := List.all_eq_true.1 hs k (List.mem_range.2 hk)
    unfold stepB at h6
    simp only [Bool.and_eq_true] at h6
    obtain ⟨hf, _, ht⟩ := h6
    generalize ss.getD k Ste.zero = s at hb hf ht
    have hop := form_op hf
    refine ⟨hop, ?_⟩
    have hta : ∀ p ∈ spansOf s, 0 ≤ p.off ∧ p.off ≤ 50000 := fun p hp => by
      have h7 := List.all_eq_true.1 ht p hp
      unfold takeB at h7
      simp only [Bool.and_eq_true] at h7
      have h8 := hold_off h7.1
      have h9 := spans_lens hf hp
      omega
    have hn : 0 ≤ s.n ∧ s.n ≤ 1000 := by
      by_cases hc : 0 < cnt s.op
      · have := form_n hf hc; omega
      · have hc0 : cnt s.op = 0 := by omega
        unfold formB at hf
        simp only [Bool.and_eq_true] at hf
        have := hf.1.2
        simp [hc0] at this
        omega
    have hA : 0 < cnt s.op → 0 ≤ s.a ∧ s.a ≤ 50000 := fun hc => hta ⟨s.a, s.n⟩ (by unfold spansOf; obtain ⟨q, hq⟩ : ∃ q, cnt s.op = q + 1 := ⟨cnt s.op - 1, by omega⟩; rw [hq]; simp)
    have hB : 1 < cnt s.op → 0 ≤ s.b ∧ s.b ≤ 50000 := fun hc => hta ⟨s.b, s.len⟩ (by unfold spansOf; obtain ⟨q, hq⟩ : ∃ q, cnt s.op = q + 2 := ⟨cnt s.op - 2, by omega⟩; rw [hq]; simp)
    have hC : 2 < cnt s.op → 0 ≤ s.c ∧ s.c ≤ 50000 := fun hc => hta ⟨s.c, s.len⟩ (by unfold spansOf; obtain ⟨q, hq⟩ : ∃ q, cnt s.op = q + 3 := ⟨cnt s.op - 3, by omega⟩; rw [hq]; simp)
    have hsp : spareB (vlOf s) = true := by
      unfold formB at hf
      simp only [Bool.and_eq_true] at hf
      exact hf.1.1.2
    unfold spareB vlOf at hsp
    simp at hsp
    obtain ⟨⟨sa, sb⟩, sc⟩ := hsp
    have gA : 0 ≤ s.a ∧ s.a ≤ 50000 := by
      by_cases hc : 0 < cnt s.op
      · exact hA hc
      · by_cases h0 : s.op = 0
        · unfold formB at hf
          rw [if_pos h0] at hf
          simp only [Bool.and_eq_true] at hf
          have := of_decide_eq_true hf.2.1
          omega
        · rcases sa with (c | c) | c
          · omega
          · exact absurd c h0
          · omega
    have gB : 0 ≤ s.b ∧ s.b ≤ 50000 := by
      by_cases hc : 1 < cnt s.op
      · exact hB hc
      · rcases sb with c | c <;> omega
    have gC : 0 ≤ s.c ∧ s.c ≤ 50000 := by
      by_cases hc : 2 < cnt s.op
      · exact hC hc
      · by_cases hp : placeB s.op = true
        · have hp' := of_decide_eq_true hp
          have hsh := form_shape hf (by omega)
          rcases hp' with e | e
          · rw [e] at hsh
            simp [shapeB, cnt, lenB, idxB] at hsh
            omega
          · rw [e] at hsh
            simp [shapeB, cnt, idxB] at hsh
            omega
        · rcases sc with (c | c) | c
          · omega
          · exact absurd c hp
          · omega
    intro y hy
    simp [fieldsOf] at hy
    rcases hy with rfl | rfl | rfl | rfl | rfl | rfl <;> omega
  · intro k hk
    have hm : os.getD k Spn.zero ∈ os := by
      rw [List.getD_eq_getElem?_getD, List.getElem?_eq_getElem hk]
      exact List.getElem_mem _
    have := List.all_eq_true.1 ho _ hm
    unfold outB at this
    simp only [Bool.and_eq_true] at this
    have h7 := of_decide_eq_true this.1
    have h8 := hold_off this.2
    omega
/-- What a code's bytes come to behind Verify. -/
structure SvI (w2 W : World) (v : Value) (bs : List Int) : Prop where
  r : YB W w2.heap.size v bs
  k : Kept 0 0 w2 W
theorem SvI.size {w2 W : World} {v : Value} {bs : List Int} (f : SvI w2 W v bs) : w2.heap.size ≤ W.heap.size := f.k.size
theorem SvI.next {w2 W W1 w' : World} {v v' : Value} {bs bs' : List Int} (f : SvI w2 W v bs) (k1 : Kept 0 0 W W1) (h : YB w' w2.heap.size v' bs') (hc : Chg (fun b => v.ownBlock = some b) W1 w') : SvI w2 w' v' bs' :=
  ⟨h, Chg.kept (f.k.trans k1) hc (fun _ hi => (f.r.blk hi).1)⟩
theorem SvI.keep {w2 W W1 : World} {v : Value} {bs : List Int} (f : SvI w2 W v bs) (k1 : Kept 0 0 W W1) : SvI w2 W1 v bs := ⟨f.r.keep k1, f.k.trans k1⟩
/-- withCounts of a list that was just written down. -/
theorem withLit (w : World) (B : Nat) (v : Value) (bs xs : List Int) (cs : Array Value) (n : Nat) (f : YB w B v bs) (hc : cs.toList = xs.map (Value.int .i64)) (hn : xs.length = n) (hl : n ≤ 10) (hx : ∀ y ∈ xs, 0 ≤ y ∧ y < 65536) (hb : bs.length ≤ 1000000) (hB : B ≤ w.heap.size) :
    Calls Try.prog 65 #[v, .slice (some ⟨w.heap.size, 0, none⟩) n n] (w.alloc (.cells cs 3)) (Grew (w.alloc (.cells cs 3)) B v (bs ++ xs.flatMap cntB)) := by
  have ka := kept_alloc 0 0 w (.cells cs 3)
  refine withCounts _ B v bs xs _ n n w.heap.size (w.heap.size + 1) (f.keep ka) ⟨hn, .inr ⟨w.heap.size, 0, rfl, Nat.le_refl _, Nat.lt_succ_self _, by simp, fun k hk => ?_⟩⟩ (fun g h1 h2 h3 => ?_) hx hb (by omega) (Nat.le_trans hB ka.size)
  · rw [Nat.zero_add, World.cell?_alloc_new, ← Array.getElem?_toList, hc, List.getElem?_map, List.getElem?_eq_getElem (by omega), List.getD_eq_getElem?_getD, List.getElem?_eq_getElem (by omega)]
    rfl
  · have := (f.blk h3).2
    omega
theorem AtT.keepC {w w' : World} {S : Nat → Prop} {g : Nat} {v : Ste} (a : AtT w g 0 v) (hg : g < w.heap.size) (k : Chg S w w') (hd : ¬ S g) : AtT w' g 0 v := by
  have e : ∀ o, w'.cell? ⟨g, o, none⟩ = w.cell? ⟨g, o, none⟩ := fun o => k.cell (p := ⟨g, o, none⟩) hg hd
  obtain ⟨c0, c1, c2, c3, c4, c5, c6, c7⟩ := a
  exact ⟨by rw [e]; exact c0, by rw [e]; exact c1, by rw [e]; exact c2, by rw [e]; exact c3, by rw [e]; exact c4, by rw [e]; exact c5, by rw [e]; exact c6, by rw [e]; exact c7⟩
theorem atT_newS (w : World) (v : Ste) : AtT (w.alloc v.box) w.heap.size 0 v := by
  constructor
  all_goals first | (go_simp; done) | (simp; done)
end Go.Proofs.Ytdkjdlimcnddkaa
