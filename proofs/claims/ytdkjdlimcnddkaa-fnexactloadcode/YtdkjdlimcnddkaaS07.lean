import Derived.Test.YtdkjdlimcnddkaaS04
import Derived.Test.YtdkjdlimcnddkaaS03
import Derived.Test.YtdkjdlimcnddkaaS05
import Derived.Test.YtdkjdlimcnddkaaV03
import Derived.Test.YtdkjdlimcnddkaaS06
import Derived.Deep.AppendLies
namespace Go.Proofs.Ytdkjdlimcnddkaa
open Go.RowKit Flt
attribute [local go_sem] alloc_drewN setCell_drewN run_store_float

/-- A count as two bytes. -/
def cntB (v : Int) : List Int := [v % 256, v / 256]
/-- The k lowest bytes of a number. -/
def bytesN (b : Nat) : Nat → List Int
  | 0 => []
  | k + 1 => bytesN b k ++ [((b / 256 ^ k % 256 : Nat) : Int)]
def fieldsOf (s : Ste) : List Int := [s.len, s.n, s.dst, s.a, s.b, s.c]
def steB (s : Ste) : List Int := [s.op] ++ (fieldsOf s).flatMap cntB ++ (if s.op = 1 then bytesN (fb s.k) 8 else [])
def spnB (p : Spn) : List Int := cntB p.off ++ cntB p.len
/-- The bytes of a code. -/
def saveM (ins : List Int) (ss : List Ste) (os : List Spn) (pk : Int) : List Int :=
  [71, 76] ++ cntB ins.length ++ ins.flatMap cntB ++ cntB ss.length ++ ss.flatMap steB ++ cntB os.length ++ os.flatMap spnB ++ cntB pk
theorem cntB_len (v : Int) : (cntB v).length = 2 := rfl
theorem bytesN_len (b : Nat) : ∀ k, (bytesN b k).length = k
  | 0 => rfl
  | k + 1 => by rw [bytesN, List.length_append, bytesN_len b k]; rfl
theorem flat_cnt_len (xs : List Int) : (xs.flatMap cntB).length = 2 * xs.length := by
  induction xs with
  | nil => rfl
  | cons x r ih => rw [List.flatMap_cons, List.length_append, cntB_len, ih, List.length_cons]; omega
theorem flatMap_takeS {α β : Type} (f : α → List β) (xs : List α) (z : α) {k : Nat} (h : k < xs.length) : (xs.take (k + 1)).flatMap f = (xs.take k).flatMap f ++ f (xs.getD k z) := by
  rw [List.take_succ_eq_append_getElem h, List.flatMap_append, List.flatMap_singleton]
  rw [List.getD_eq_getElem?_getD, List.getElem?_eq_getElem h]; rfl
theorem steB_len (s : Ste) : (steB s).length = 13 + (if s.op = 1 then 8 else 0) := by
  unfold steB fieldsOf
  simp only [List.length_append, flat_cnt_len, List.length_cons, List.length_nil]
  split
  · rw [bytesN_len]
  · rfl
theorem flat_ste_len (ss : List Ste) : (ss.flatMap steB).length ≤ 21 * ss.length := by
  induction ss with
  | nil => simp
  | cons x r ih => rw [List.flatMap_cons, List.length_append, steB_len, List.length_cons]; split <;> omega
theorem flat_spn_len (os : List Spn) : (os.flatMap spnB).length = 4 * os.length := by
  induction os with
  | nil => rfl
  | cons x r ih => rw [List.flatMap_cons, List.length_append, ih, List.length_cons]; unfold spnB; rw [List.length_append, cntB_len, cntB_len]; omega

/-- A row of bytes that is grown by append. -/
def YB (W : World) (B : Nat) (v : Value) (bs : List Int) : Prop := W.ownsRow B 5 1 v bs.length (bs.map (Value.int .u8))
theorem YB.keepC {W W' : World} {S : Nat → Prop} {B : Nat} {v : Value} {bs : List Int} (f : YB W B v bs) (k : Chg S W W') (hd : ∀ g, v.ownBlock = some g → ¬ S g) : YB W' B v bs := own_keepC f k hd
theorem YB.keep {W W' : World} {B : Nat} {v : Value} {bs : List Int} (f : YB W B v bs) (k : Kept 0 0 W W') : YB W' B v bs := own_keepJ f k
theorem YB.blk {W : World} {B : Nat} {v : Value} {bs : List Int} (f : YB W B v bs) {g : Nat} (h : v.ownBlock = some g) : B ≤ g ∧ g < W.heap.size := own_blkV f h
theorem YB.nil (W : World) (B : Nat) : YB W B (.slice none 0 0) [] := World.ownsRow_nil _ _ _ _
theorem YB.lit (w : World) (B : Nat) (bs : List Int) (cs : Array Value) (n : Nat) (hc : cs.toList = bs.map (Value.int .u8)) (hn : bs.length = n) (hb : B ≤ w.heap.size) (hm : n ≤ 1000000) : YB (w.alloc (.cells cs 5)) B (.slice (some ⟨w.heap.size, 0, none⟩) n n) bs := by
  unfold YB
  have hs : cs.size = n := by rw [← Array.length_toList, hc, List.length_map, hn]
  have := World.ownsRow_lit (base := B) (e := 5) (size := 1) w cs n hb (by unfold maxLen; omega) (by rw [hs, Nat.mul_one])
  rw [hn, ← hc]
  exact this
theorem newsY {w : World} {ad : Addr} {ys : List Int} (h : ∀ j, j < ys.length → w.cell? (ad.add j) = some (.int .u8 (ys.getD j 0))) : ∀ j u, (ys.map (Value.int .u8))[j]? = some u → w.cell? (ad.add j) = some u := by
  intro j u hu
  by_cases hj : j < ys.length
  · rw [h j hj]
    rw [List.getElem?_map, List.getElem?_eq_getElem hj] at hu
    simp only [Option.map_some] at hu
    rw [← hu, List.getD_eq_getElem?_getD, List.getElem?_eq_getElem hj]; rfl
  · rw [List.getElem?_eq_none (by simp; omega)] at hu; cases hu
theorem wpList_appendY (w : World) {ops : Array Oper} {rest : List Oper} {o : Oper} {a : Act} {Q : Exit → Act → World → Prop} (hgd : o.guard = none) (s x : Operand)
    (ho : o.op = .call { callee := .builtin .append, args := #[s, x], argTypes := #[50, 50] })
    (B : Nat) (v : Value) (bs : List Int) (hs : a.eval s = v) (hown : YB w B v bs)
    (ad : Addr) (m c : Nat) (ys : List Int) (hx : a.eval x = .slice (some ad) m c) (hl : ys.length = m) (hnews : ∀ j, j < ys.length → w.cell? (ad.add j) = some (.int .u8 (ys.getD j 0)))
    (hm : 0 < m) (h63 : bs.length + m ≤ 100000000) (hbase : B ≤ w.heap.size)
    (h : ∀ g cap n w', n = (bs ++ ys).length → YB w' B (.slice (some ⟨g, 0, none⟩) n cap) (bs ++ ys) → Chg (fun b => v.ownBlock = some b) w w' → (v.ownBlock = some g ∨ g = w.heap.size) → wpList Try.prog ops Q rest (a.put o.dst (.slice (some ⟨g, 0, none⟩) n cap)) w') : wpList Try.prog ops Q (o :: rest) a w := by
  obtain ⟨i0, hi, hz0, hz1, hz2⟩ := info_parts infoY
  refine wpList_append_lies w hgd s x 50 ho B 5 i0 (.int .u8 0) 1 1 Try.underlying50 hi hz0 hz1 hz2 rfl (by decide) v bs.length _ hs hown ad m c (ys.map (Value.int .u8)) hx (by rw [List.length_map, hl, Nat.mul_one]) (newsY hnews) ?_ hm (by unfold maxLen; omega) (by omega) hbase _ rfl ?_
  · intro u hu; obtain ⟨x, _, rfl⟩ := List.mem_map.1 hu; rfl
  · intro g cap w' h1 h2 h3 _
    have e : bs.length + m = (bs ++ ys).length := by rw [List.length_append, hl]
    rw [e] at h1 ⊢
    refine h g cap _ w' rfl ?_ (chg_grow h2) h3
    unfold YB
    rw [List.map_append]
    exact h1
theorem step_appendY (w : World) {ops : Array Oper} {o : Oper} {a : Act} {K : Act → World → Prop} {Q : Exit → Act → World → Prop} {E : Prop} (hgd : o.guard = none) (s x : Operand)
    (ho : o.op = .call { callee := .builtin .append, args := #[s, x], argTypes := #[50, 50] })
    (B : Nat) (v : Value) (bs : List Int) (hs : a.eval s = v) (hown : YB w B v bs)
    (ad : Addr) (m c : Nat) (ys : List Int) (hx : a.eval x = .slice (some ad) m c) (hl : ys.length = m) (hnews : ∀ j, j < ys.length → w.cell? (ad.add j) = some (.int .u8 (ys.getD j 0)))
    (hm : 0 < m) (h63 : bs.length + m ≤ 100000000) (hbase : B ≤ w.heap.size)
    (h : ∀ g cap n w', n = (bs ++ ys).length → YB w' B (.slice (some ⟨g, 0, none⟩) n cap) (bs ++ ys) → Chg (fun b => v.ownBlock = some b) w w' → (v.ownBlock = some g ∨ g = w.heap.size) → K (a.put o.dst (.slice (some ⟨g, 0, none⟩) n cap)) w') :
    if Region.wanted o (yielded ops a.tmps) = true then Oper.wp Try.prog o a w K Q else E := by
  obtain ⟨i0, hi, hz0, hz1, hz2⟩ := info_parts infoY
  refine step_append_lies w hgd s x 50 ho B 5 i0 (.int .u8 0) 1 1 Try.underlying50 hi hz0 hz1 hz2 rfl (by decide) v bs.length _ hs hown ad m c (ys.map (Value.int .u8)) hx (by rw [List.length_map, hl, Nat.mul_one]) (newsY hnews) ?_ hm (by unfold maxLen; omega) (by omega) hbase _ rfl ?_
  · intro u hu; obtain ⟨x, _, rfl⟩ := List.mem_map.1 hu; rfl
  · intro g cap w' h1 h2 h3 _
    have e : bs.length + m = (bs ++ ys).length := by rw [List.length_append, hl]
    rw [e] at h1 ⊢
    refine h g cap _ w' rfl ?_ (chg_grow h2) h3
    unfold YB
    rw [List.map_append]
    exact h1
end Go.Proofs.Ytdkjdlimcnddkaa
