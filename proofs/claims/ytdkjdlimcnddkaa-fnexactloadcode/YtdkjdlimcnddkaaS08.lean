import Derived.Test.YtdkjdlimcnddkaaS07
namespace Go.Proofs.Ytdkjdlimcnddkaa
open Go.RowKit Flt
attribute [local go_sem] alloc_drewN setCell_drewN run_store_float

theorem YB.at_ {W : World} {B : Nat} {v : Value} {bs : List Int} (f : YB W B v bs) (h : 0 < bs.length) : ∃ g cap, v = .slice (some ⟨g, 0, none⟩) bs.length cap ∧ B ≤ g ∧ g < W.heap.size ∧ ∀ j, j < bs.length → W.cell? ⟨g, j, none⟩ = some (.int .u8 (bs.getD j 0)) := by
  rcases f.2 with ⟨_, c⟩ | ⟨g, cap, cur, e, b1, b2, b3, _, b5, b6⟩
  · omega
  · have hg : g < W.heap.size := by
      rcases Nat.lt_or_ge g W.heap.size with c | c
      · exact c
      · rw [Array.getElem?_eq_none c] at b2; cases b2
    refine ⟨g, cap, e, b1, hg, fun j hj => ?_⟩
    rw [cell_of_row W g _ cur _ _ b2, ← Array.getElem?_toList]
    have : (cur.toList.take (bs.length * 1))[j]? = (bs.map (Value.int .u8))[j]? := by rw [b6]
    rw [List.getElem?_take_of_lt (by omega)] at this
    rw [this, List.getElem?_map, List.getElem?_eq_getElem hj, List.getD_eq_getElem?_getD, List.getElem?_eq_getElem hj]; rfl
theorem newsA (w : World) (cs : Array Value) (ys : List Int) (hc : cs.toList = ys.map (Value.int .u8)) : ∀ j, j < ys.length → (w.alloc (.cells cs 5)).cell? ((⟨w.heap.size, 0, none⟩ : Addr).add j) = some (.int .u8 (ys.getD j 0)) := by
  intro j hj
  rw [add_addr, Nat.zero_add, World.cell?_alloc_new, ← Array.getElem?_toList, hc, List.getElem?_map, List.getElem?_eq_getElem hj, List.getD_eq_getElem?_getD, List.getElem?_eq_getElem hj]
  rfl
theorem news0 {w : World} {g : Nat} {ys : List Int} (h : ∀ j, j < ys.length → w.cell? ⟨g, j, none⟩ = some (.int .u8 (ys.getD j 0))) : ∀ j, j < ys.length → w.cell? ((⟨g, 0, none⟩ : Addr).add j) = some (.int .u8 (ys.getD j 0)) := fun j hj => by
  rw [add_addr, Nat.zero_add]; exact h j hj
/-- What a function says that grows a row of bytes. -/
def Grew (w : World) (B : Nat) (v : Value) (bs : List Int) (e : Ending) (w' : World) : Prop :=
  ∃ v', e = .returned v' ∧ YB w' B v' bs ∧ Chg (fun b => v.ownBlock = some b) w w' ∧ ∀ g, v'.ownBlock = some g → v.ownBlock = some g ∨ w.heap.size ≤ g
/-- A round of growth. -/
theorem grow_round {w W W1 W9 : World} {S : Nat → Prop} {u : Value} {g n cap : Nat} (hC : Chg S w W) (hG : ∀ g, u.ownBlock = some g → S g ∨ w.heap.size ≤ g) (k : Kept 0 0 W W1) (h9 : Chg (fun b => u.ownBlock = some b) W1 W9) (ha : u.ownBlock = some g ∨ g = W.heap.size + 1) :
    Chg S w W9 ∧ ∀ h, (Value.slice (some ⟨g, 0, none⟩) n cap).ownBlock = some h → S h ∨ w.heap.size ≤ h := by
  have h1 := hC.size
  have h2 := k.size
  refine ⟨Chg.new (Chg.trans hC k.chg) h9 (fun i hi hb => ?_), fun h hh => ?_⟩
  · rcases hG i hb with c | c
    · exact c
    · omega
  · simp [Value.ownBlock] at hh
    subst hh
    rcases ha with c | c
    · exact hG g c
    · right; omega
set_option maxRecDepth 100000 in
set_option maxHeartbeats 2000000 in
theorem withCounts (w : World) (B : Nat) (v : Value) (bs xs : List Int) (a : Option Addr) (m c lo hi : Nat) (f : YB w B v bs) (x : IS w lo hi a m xs) (hd : ∀ g, lo ≤ g → g < hi → ¬ v.ownBlock = some g) (hx : ∀ y ∈ xs, 0 ≤ y ∧ y < 65536) (hb : bs.length ≤ 1000000) (hm : m ≤ 1000000) (hB : B ≤ w.heap.size) :
    Calls Try.prog 65 #[v, .slice a m c] w (Grew w B v (bs ++ xs.flatMap cntB)) := by
  have HX : Hid _ := x
  have HD : Hid _ := hd
  have HY : Hid (∀ k, k < m → 0 ≤ xs.getD k 0 ∧ xs.getD k 0 < 65536) := fun k hk => hx _ (getD_memJ (by rw [x.len]; exact hk))
  have HF : Hid _ := f
  have HL : Hid (xs.length = m) := x.len
  clear x hd hx f
  go_enter Try.func65, Try.ntmps65
  go_wp2_with fail
  go_loopw [0, 9] (fun b i W => ∃ k : Nat, k ≤ m ∧ i = .int .i64 k ∧ Hid (YB W B b (bs ++ (xs.take k).flatMap cntB)) ∧ Hid (Chg (fun g => v.ownBlock = some g) w W) ∧ Hid (∀ g, b.ownBlock = some g → v.ownBlock = some g ∨ w.heap.size ≤ g)) (fun _ i _ => m - (intOf i).toNat)
  case atStart => exact ⟨0, Nat.zero_le _, rfl, by rw [List.take_zero, List.flatMap_nil, List.append_nil]; exact HF, (Kept.refl 0 0 w).chg, fun g h => .inl h⟩
  case round =>
    obtain ⟨k, hk, rfl, hR, hC, hG⟩ := hrel
    by_cases hlt : k < m
    · have hI := HX.out.keepC hC.out HD.out
      rcases hI.at_ with z | ⟨ga, off, rfl, z1, z2, z3, z4⟩
      · omega
      have c1 := z4 k hlt
      have hy := HY.out k hlt
      have HT : Hid _ := flatMap_takeS cntB xs 0 (by rw [HL.out]; exact hlt)
      generalize xs.getD k 0 = y at c1 hy HT
      have HLN : Hid ((bs ++ (xs.take k).flatMap cntB).length ≤ 3000000) := by
        show _ ≤ _
        rw [List.length_append, flat_cnt_len, List.length_take]; omega
      have HS : Hid _ := hC.out.size
      clear z1 z2 z3 z4 hI
      go_wp2_with (first | (at_builtin; refine wpList_appendY _ rfl _ _ rfl B _ _ rfl (YB.keep hR.out (kept_alloc 0 0 wr _)) ⟨wr.heap.size, 0, none⟩ 2 2 (cntB y) rfl rfl (newsA wr _ (cntB y) rfl) (by decide) ?c2 ?c3 ?_) | fail)
      case c2 => have := HLN.out; omega
      case c3 => have := HS.out; simp; omega
      intro g cap n9 w9 _ hR9 hC9 hG9
      have R1 : Hid _ := hR9
      have R2 : Hid _ := grow_round (n := n9) (cap := cap) hC.out hG.out (kept_alloc 0 0 wr _) hC9 hG9
      clear hR9 hC9 hG9
      try rw [List.append_assoc] at R1
      rw [← HT.out] at R1
      go_wp2_with fail
      go_roundw
      case rel => exact ⟨k + 1, by omega, by go_num, R1, R2.out.1, R2.out.2⟩
      case measure => simp [intOf]; omega
    · obtain rfl : k = m := by omega
      rw [List.take_of_length_le (by rw [HL.out]; exact Nat.le_refl _)] at hR
      go_wp2_with fail
      go_ret
      exact ⟨_, rfl, hR.out, hC.out, hG.out⟩
theorem byteN_div (b k : Nat) : b / 256 ^ k / 256 = b / 256 ^ (k + 1) := by rw [Nat.div_div_eq_div_mul, Nat.pow_succ]
theorem pow_cast (b k : Nat) : ((b / 256 ^ k : Nat) : Int) / 256 = ((b / 256 ^ (k + 1) : Nat) : Int) := by rw [← byteN_div]; omega
set_option maxRecDepth 100000 in
set_option maxHeartbeats 2000000 in
theorem withFloat (w : World) (B : Nat) (v : Value) (bs : List Int) (z : Nat) (hz : z < 18446744073709551616) (f : YB w B v bs) (hb : bs.length ≤ 10000000) (hB : B ≤ w.heap.size) :
    Calls Try.prog 66 #[v, .float .f64 z] w (Grew w B v (bs ++ bytesN (fb z) 8)) := by
  have HF : Hid _ := f
  have hq : fb z < 18446744073709551616 := by unfold fb; split <;> omega
  have HI : Hid _ := implBits z w
  clear f
  generalize fb z = q at hq HI ⊢
  go_enter Try.func66, Try.ntmps66
  go_wp2_with fail
  refine Calls.mono HI.out ?_
  rintro e w2 ⟨rfl, rfl⟩
  go_wp2_with fail
  go_loopw [0, 5, 8] (fun b x i W => ∃ k : Nat, k ≤ 8 ∧ i = .int .i64 k ∧ x = .int .u64 ((q / 256 ^ k : Nat) : Int) ∧ Hid (YB W B b (bs ++ bytesN q k)) ∧ Hid (Chg (fun g => v.ownBlock = some g) w2 W) ∧ Hid (∀ g, b.ownBlock = some g → v.ownBlock = some g ∨ w2.heap.size ≤ g)) (fun _ _ i _ => 8 - (intOf i).toNat)
  case atStart => exact ⟨0, Nat.zero_le _, rfl, by simp, by rw [bytesN, List.append_nil]; exact HF, (Kept.refl 0 0 w2).chg, fun g h => .inl h⟩
  case round =>
    obtain ⟨k, hk, rfl, rfl, hR, hC, hG⟩ := hrel
    have HQ : Hid _ := pow_cast q k
    by_cases hlt : k < 8
    · have HLN : Hid ((bs ++ bytesN q k).length ≤ 30000000) := by
        show _ ≤ _
        rw [List.length_append, bytesN_len]; omega
      have HS : Hid _ := hC.out.size
      have hle : q / 256 ^ k ≤ q := Nat.div_le_self _ _
      have HT : Hid (bytesN q (k + 1) = bytesN q k ++ [((q / 256 ^ k % 256 : Nat) : Int)]) := rfl
      obtain ⟨y, hy⟩ : ∃ y, y = q / 256 ^ k := ⟨_, rfl⟩
      rw [← hy] at HQ hle HT ⊢
      clear hy
      have e1 : ((y % 256 : Nat) : Int) = (y : Int) % 256 := by omega
      rw [e1] at HT
      clear e1
      go_wp2_with (first | (at_builtin; refine wpList_appendY _ rfl _ _ rfl B _ _ rfl (YB.keep hR.out (kept_alloc 0 0 wr _)) ⟨wr.heap.size, 0, none⟩ 1 1 [(y : Int) % 256] rfl rfl (newsA wr _ [(y : Int) % 256] rfl) (by decide) ?c2 ?c3 ?_) | fail)
      case c2 => have := HLN.out; omega
      case c3 => have := HS.out; simp; omega
      intro g cap n9 w9 _ hR9 hC9 hG9
      have R1 : Hid _ := hR9
      have R2 : Hid _ := grow_round (n := n9) (cap := cap) hC.out hG.out (kept_alloc 0 0 wr _) hC9 hG9
      clear hR9 hC9 hG9
      try rw [List.append_assoc] at R1
      rw [← HT.out] at R1
      go_wp2_with fail
      go_roundw
      case rel => exact ⟨k + 1, by omega, by go_num, by rw [HQ.out], R1, R2.out.1, R2.out.2⟩
      case measure => simp [intOf]; omega
    · obtain rfl : k = 8 := by omega
      clear HQ
      generalize q / 256 ^ 8 = y
      go_wp2_with fail
      go_ret
      exact ⟨_, rfl, hR.out, hC.out, hG.out⟩
set_option maxRecDepth 100000 in
set_option maxHeartbeats 2000000 in
theorem l6count (w : World) (v : Int) (h0 : 0 ≤ v) (h1 : v < 65536) :
    Calls Try.prog 111 #[.int .i64 v] w fun e w' => e = .returned (.slice (some ⟨w.heap.size, 0, none⟩) 2 2) ∧ w' = w.alloc (.cells #[.int .u8 (v % 256), .int .u8 (v / 256)] 5) := by
  go_enter Try.func111, Try.ntmps111
  go_wp2
  go_ret
  exact ⟨rfl, rfl⟩
set_option maxRecDepth 100000 in
set_option maxHeartbeats 2000000 in
theorem l6float (w : World) (z : Nat) (hz : z < 18446744073709551616) :
    Calls Try.prog 112 #[.float .f64 z] w fun e w' => ∃ g cap, e = .returned (.slice (some ⟨g, 0, none⟩) 8 cap) ∧ (∀ j, j < (bytesN (fb z) 8).length → w'.cell? ((⟨g, 0, none⟩ : Addr).add j) = some (.int .u8 ((bytesN (fb z) 8).getD j 0))) ∧ Kept 0 0 w w' := by
  have hq : fb z < 18446744073709551616 := by unfold fb; split <;> omega
  have HI : Hid _ := specBits z w hz
  generalize fb z = q at hq HI ⊢
  go_enter Try.func112, Try.ntmps112
  go_wp2_with fail
  refine Calls.mono HI.out ?_
  rintro e w2 ⟨rfl, rfl⟩
  go_wp2_with fail
  go_loopw [3, 4, 5] (fun x b i W => ∃ k : Nat, k ≤ 8 ∧ i = .int .i64 k ∧ x = .int .u64 ((q / 256 ^ k : Nat) : Int) ∧ Hid (YB W w2.heap.size b (bytesN q k)) ∧ Hid (Chg (fun g => False) w2 W) ∧ Hid (∀ g, b.ownBlock = some g → False ∨ w2.heap.size ≤ g)) (fun _ _ i _ => 8 - (intOf i).toNat)
  case atStart => exact ⟨0, Nat.zero_le _, rfl, by simp, YB.nil _ _, (Kept.refl 0 0 w2).chg, fun g h => by simp [Value.ownBlock] at h⟩
  case round =>
    obtain ⟨k, hk, rfl, rfl, hR, hC, hG⟩ := hrel
    have HQ : Hid _ := pow_cast q k
    by_cases hlt : k < 8
    · have HLN : Hid ((bytesN q k).length ≤ 30000000) := by
        show _ ≤ _
        rw [bytesN_len]; omega
      have HS : Hid _ := hC.out.size
      have hle : q / 256 ^ k ≤ q := Nat.div_le_self _ _
      have HT : Hid (bytesN q (k + 1) = bytesN q k ++ [((q / 256 ^ k % 256 : Nat) : Int)]) := rfl
      obtain ⟨y, hy⟩ : ∃ y, y = q / 256 ^ k := ⟨_, rfl⟩
      rw [← hy] at HQ hle HT ⊢
      clear hy
      have e1 : ((y % 256 : Nat) : Int) = (y : Int) % 256 := by omega
      rw [e1] at HT
      clear e1
      go_wp2_with (first | (at_builtin; refine wpList_appendY _ rfl _ _ rfl w2.heap.size _ _ rfl (YB.keep hR.out (kept_alloc 0 0 wr _)) ⟨wr.heap.size, 0, none⟩ 1 1 [(y : Int) % 256] rfl rfl (newsA wr _ [(y : Int) % 256] rfl) (by decide) ?c2 ?c3 ?_) | fail)
      case c2 => have := HLN.out; omega
      case c3 => have := HS.out; simp; omega
      intro g cap n9 w9 _ hR9 hC9 hG9
      have R1 : Hid _ := hR9
      have R2 : Hid _ := grow_round (n := n9) (cap := cap) hC.out hG.out (kept_alloc 0 0 wr _) hC9 hG9
      clear hR9 hC9 hG9
      rw [← HT.out] at R1
      go_wp2_with fail
      go_roundw
      case rel => exact ⟨k + 1, by omega, by go_num, by rw [HQ.out], R1, R2.out.1, R2.out.2⟩
      case measure => simp [intOf]; omega
    · obtain rfl : k = 8 := by omega
      clear HQ
      generalize q / 256 ^ 8 = y
      obtain ⟨g, cap, rfl, h1, h2, h3⟩ := hR.out.at_ (by rw [bytesN_len]; decide)
      have R1 : Hid _ := news0 h3
      have R2 : Hid _ := Chg.kept (Kept.refl 0 0 w2) hC.out (fun _ h => h.elim)
      rw [bytesN_len]
      clear h1 h2 h3
      go_wp2_with fail
      go_ret
      exact ⟨g, cap, rfl, fun j hj => R1.out j hj, R2.out⟩
end Go.Proofs.Ytdkjdlimcnddkaa
