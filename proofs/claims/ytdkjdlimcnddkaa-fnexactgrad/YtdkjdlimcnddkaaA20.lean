import Derived.Test.YtdkjdlimcnddkaaA19
namespace Go.Proofs.Ytdkjdlimcnddkaa
open Go.RowKit Flt
theorem Same.trans {lo hi lo' hi' : Nat} {W0 W1 W : World} (a : Same lo hi W0 W1) (b : Same lo' hi' W1 W) (h1 : lo' ≤ lo) (h2 : hi ≤ hi') : Same lo hi W0 W :=
  ⟨a.le, Nat.le_trans a.size b.size, fun x l h => (b.blk x (by omega) (by omega)).trans (a.blk x l h)⟩
theorem InR.mono {lo hi lo' hi' P : Nat} {R : Option Nat} (f : InR lo' hi' P R) (h1 : lo' ≤ lo) (h2 : hi ≤ hi') : InR lo hi P R :=
  ⟨by have := f.p; omega, fun b hb => by have := f.r b hb; omega⟩
theorem PC.mono {W0 W1 : World} {lo hi lo' hi' P : Nat} {vs0 : List Vl} {fv : Value} {f : Int → Nat → List Vl × Int} (h : PC W0 lo hi P vs0 fv f) (s : Same lo hi W0 W1) (h1 : lo' ≤ lo) (h2 : hi ≤ hi') : PC W1 lo' hi' P vs0 fv f := by
  obtain ⟨N, caps, e, he, hc⟩ := h
  exact ⟨N, caps, e, he, fun W u1 u3 us c base R vv d hs hr hb hp hn => hc W u1 u3 us c base R vv d (s.trans hs h1 h2) (hr.mono h1 h2) hb hp hn⟩
theorem PC.cast {W0 : World} {lo hi P : Nat} {vs0 : List Vl} {fv : Value} {f f' : Int → Nat → List Vl × Int} (h : PC W0 lo hi P vs0 fv f) (e : f = f') : PC W0 lo hi P vs0 fv f' := e ▸ h
/-- A box within lo and hi. -/
structure Bx (W0 : World) (lo hi b : Nat) (u : Value) : Prop where
  lo_ : lo ≤ b
  hi_ : b < hi
  at_ : W0.cell? ⟨b, 0, none⟩ = some u
theorem Bx.cap {W0 W : World} {lo hi P b : Nat} {R : Option Nat} {u : Value} (x : Bx W0 lo hi b u) (s : Same lo hi W0 W) (r : InR lo hi P R) : Cap W P R b u :=
  ⟨by rw [s.cell x.lo_ x.hi_]; exact x.at_, by have := x.hi_; have := s.le; have := s.size; omega, by have := x.lo_; have := r.p; omega, fun e => by have := r.r b e; have := x.lo_; have := x.hi_; omega⟩
structure Vx (W0 : World) (lo hi b : Nat) (v : Vl) : Prop where
  lo_ : lo ≤ b
  hi_ : b < hi
  at_ : At W0 b 0 v
theorem Vx.at' {W0 W : World} {lo hi b : Nat} {v : Vl} (x : Vx W0 lo hi b v) (s : Same lo hi W0 W) : At W b 0 v := by
  have e : ∀ o, W.cell? ⟨b, o, none⟩ = W0.cell? ⟨b, o, none⟩ := fun o => s.cell x.lo_ x.hi_
  obtain ⟨c0, c1, c2, c3, c4, c5⟩ := x.at_
  exact ⟨by rw [e]; exact c0, by rw [e]; exact c1, by rw [e]; exact c2, by rw [e]; exact c3, by rw [e]; exact c4, by rw [e]; exact c5⟩
theorem Vx.lt {W0 W : World} {lo hi b : Nat} {v : Vl} (x : Vx W0 lo hi b v) (s : Same lo hi W0 W) : b < W.heap.size := by have := x.hi_; have := s.le; have := s.size; omega
theorem Vx.np {W0 : World} {lo hi P b : Nat} {R : Option Nat} {v : Vl} (x : Vx W0 lo hi b v) (r : InR lo hi P R) : b ≠ P := by have := x.lo_; have := r.p; omega
theorem Vx.nr {W0 : World} {lo hi P b : Nat} {R : Option Nat} {v : Vl} (x : Vx W0 lo hi b v) (r : InR lo hi P R) : R ≠ some b := fun e => by have := r.r b e; have := x.lo_; have := x.hi_; omega
theorem pc_whole (W0 : World) (lo hi P : Nat) (vs0 : List Vl) : PC W0 lo hi P vs0 (.func (.func 172) #[] #[]) (fun d _ => ([], d)) :=
  ⟨_, _, rfl, Go.Proofs.enters_of Try.func172 (by kernel_rfl) rfl, fun W u1 u3 us c base R vv d _ _ hb _ _ => (k_whole W d).mono fun e w' ⟨h1, h2⟩ => by subst h1 h2; exact Bd.none hb d⟩
theorem pc_opp {W0 : World} {lo hi P : Nat} {vs0 : List Vl} {xb : Nat} (hb : Bx W0 lo hi xb (.pointer (some ⟨P, 0, none⟩))) {xn : Nat} {n : Int} (hn : Bx W0 lo hi xn (.int .i64 n)) (n0 : -1000 ≤ n) (n1 : n ≤ 1000)  : PC W0 lo hi P vs0 (.func (.func 173) #[] #[.pointer (some ⟨xb, 0, none⟩), .pointer (some ⟨xn, 0, none⟩)]) (fun d N => ([vput 6 n d 0 0], N)) :=
  ⟨_, _, rfl, Go.Proofs.enters_of Try.func173 (by kernel_rfl) rfl, fun W u1 u3 us c base R vv d s r b _ B => k_opp W P u1 u3 us c base R vv b B.w d _ (hb.cap s r).at_ _ _ (hn.cap s r).at_ n0 n1⟩
theorem pc_mulB {W0 : World} {lo hi P : Nat} {vs0 : List Vl} {xb : Nat} (hb : Bx W0 lo hi xb (.pointer (some ⟨P, 0, none⟩))) {xn : Nat} {n : Int} (hn : Bx W0 lo hi xn (.int .i64 n)) (n0 : -1000 ≤ n) (n1 : n ≤ 1000) {xv : Nat} {v : Vl} (hv : Vx W0 lo hi xv v)  : PC W0 lo hi P vs0 (.func (.func 175) #[] #[.pointer (some ⟨xb, 0, none⟩), .pointer (some ⟨xn, 0, none⟩), .pointer (some ⟨xv, 0, none⟩)]) (fun d N => ([vput 4 n d v.b 0], N)) :=
  ⟨_, _, rfl, Go.Proofs.enters_of Try.func175 (by kernel_rfl) rfl, fun W u1 u3 us c base R vv d s r b _ B => k_mulB W P u1 u3 us c base R vv b B.w d _ (hb.cap s r).at_ _ _ (hn.cap s r).at_ n0 n1 _ _ (hv.at' s)⟩
theorem pc_mulA {W0 : World} {lo hi P : Nat} {vs0 : List Vl} {xb : Nat} (hb : Bx W0 lo hi xb (.pointer (some ⟨P, 0, none⟩))) {xn : Nat} {n : Int} (hn : Bx W0 lo hi xn (.int .i64 n)) (n0 : -1000 ≤ n) (n1 : n ≤ 1000) {xv : Nat} {v : Vl} (hv : Vx W0 lo hi xv v)  : PC W0 lo hi P vs0 (.func (.func 176) #[] #[.pointer (some ⟨xb, 0, none⟩), .pointer (some ⟨xn, 0, none⟩), .pointer (some ⟨xv, 0, none⟩)]) (fun d N => ([vput 4 n d v.a 0], N)) :=
  ⟨_, _, rfl, Go.Proofs.enters_of Try.func176 (by kernel_rfl) rfl, fun W u1 u3 us c base R vv d s r b _ B => k_mulA W P u1 u3 us c base R vv b B.w d _ (hb.cap s r).at_ _ _ (hn.cap s r).at_ n0 n1 _ _ (hv.at' s)⟩
theorem pc_divA {W0 : World} {lo hi P : Nat} {vs0 : List Vl} {xb : Nat} (hb : Bx W0 lo hi xb (.pointer (some ⟨P, 0, none⟩))) {xn : Nat} {n : Int} (hn : Bx W0 lo hi xn (.int .i64 n)) (n0 : -1000 ≤ n) (n1 : n ≤ 1000) {xv : Nat} {v : Vl} (hv : Vx W0 lo hi xv v)  : PC W0 lo hi P vs0 (.func (.func 177) #[] #[.pointer (some ⟨xb, 0, none⟩), .pointer (some ⟨xn, 0, none⟩), .pointer (some ⟨xv, 0, none⟩)]) (fun d N => ([vput 5 n d v.b 0], N)) :=
  ⟨_, _, rfl, Go.Proofs.enters_of Try.func177 (by kernel_rfl) rfl, fun W u1 u3 us c base R vv d s r b _ B => k_divA W P u1 u3 us c base R vv b B.w d _ (hb.cap s r).at_ _ _ (hn.cap s r).at_ n0 n1 _ _ (hv.at' s)⟩
theorem pc_divB {W0 : World} {lo hi P : Nat} {vs0 : List Vl} {xb : Nat} (hb : Bx W0 lo hi xb (.pointer (some ⟨P, 0, none⟩))) {xn : Nat} {n : Int} (hn : Bx W0 lo hi xn (.int .i64 n)) (n0 : -1000 ≤ n) (n1 : n ≤ 1000) {xi : Nat} {i : Int} (hi' : Bx W0 lo hi xi (.int .i64 i)) {xo : Nat} (ho : Bx W0 lo hi xo (.func (.func 173) #[] #[.pointer (some ⟨xb, 0, none⟩), .pointer (some ⟨xn, 0, none⟩)])) {xv : Nat} {v : Vl} (hv : Vx W0 lo hi xv v)  : PC W0 lo hi P vs0 (.func (.func 178) #[] #[.pointer (some ⟨xb, 0, none⟩), .pointer (some ⟨xn, 0, none⟩), .pointer (some ⟨xi, 0, none⟩), .pointer (some ⟨xo, 0, none⟩), .pointer (some ⟨xv, 0, none⟩)]) (fun d N => ([vput 4 n d i 0, vput 5 n N v.b 0, vput 6 n ((N + 1 : Nat) : Int) 0 0], ((N + 2 : Nat) : Int))) :=
  ⟨_, _, rfl, Go.Proofs.enters_of Try.func178 (by kernel_rfl) rfl, fun W u1 u3 us c base R vv d s r b _ B => k_divB W P u1 u3 us c base R vv b B d _ (hb.cap s r) _ _ (hn.cap s r) n0 n1 _ _ (hi'.cap s r) _ (ho.cap s r) _ _ (hv.at' s) (hv.lt s) (hv.np r) (hv.nr r)⟩
theorem pc_exp {W0 : World} {lo hi P : Nat} {vs0 : List Vl} {xb : Nat} (hb : Bx W0 lo hi xb (.pointer (some ⟨P, 0, none⟩))) {xn : Nat} {n : Int} (hn : Bx W0 lo hi xn (.int .i64 n)) (n0 : -1000 ≤ n) (n1 : n ≤ 1000) {xi : Nat} {i : Int} (hi' : Bx W0 lo hi xi (.int .i64 i))  : PC W0 lo hi P vs0 (.func (.func 179) #[] #[.pointer (some ⟨xb, 0, none⟩), .pointer (some ⟨xn, 0, none⟩), .pointer (some ⟨xi, 0, none⟩)]) (fun d N => ([vput 4 n d i 0], N)) :=
  ⟨_, _, rfl, Go.Proofs.enters_of Try.func179 (by kernel_rfl) rfl, fun W u1 u3 us c base R vv d s r b _ B => k_exp W P u1 u3 us c base R vv b B.w d _ (hb.cap s r).at_ _ _ (hn.cap s r).at_ n0 n1 _ _ (hi'.cap s r).at_⟩
theorem pc_sel1 {W0 : World} {lo hi P : Nat} {vs0 : List Vl} {xb : Nat} (hb : Bx W0 lo hi xb (.pointer (some ⟨P, 0, none⟩))) {xn : Nat} {n : Int} (hn : Bx W0 lo hi xn (.int .i64 n)) (n0 : -1000 ≤ n) (n1 : n ≤ 1000) {xv : Nat} {v : Vl} (hv : Vx W0 lo hi xv v)  : PC W0 lo hi P vs0 (.func (.func 184) #[] #[.pointer (some ⟨xb, 0, none⟩), .pointer (some ⟨xn, 0, none⟩), .pointer (some ⟨xv, 0, none⟩)]) (fun d N => ([vput 1 n 0 0 0, vput 8 n v.a d N], ((N + 1 : Nat) : Int))) :=
  ⟨_, _, rfl, Go.Proofs.enters_of Try.func184 (by kernel_rfl) rfl, fun W u1 u3 us c base R vv d s r b _ B => k_sel1 W P u1 u3 us c base R vv b B d _ (hb.cap s r) _ _ (hn.cap s r) n0 n1 _ _ (hv.at' s) (hv.lt s) (hv.np r) (hv.nr r)⟩
theorem pc_sel2 {W0 : World} {lo hi P : Nat} {vs0 : List Vl} {xb : Nat} (hb : Bx W0 lo hi xb (.pointer (some ⟨P, 0, none⟩))) {xn : Nat} {n : Int} (hn : Bx W0 lo hi xn (.int .i64 n)) (n0 : -1000 ≤ n) (n1 : n ≤ 1000) {xv : Nat} {v : Vl} (hv : Vx W0 lo hi xv v)  : PC W0 lo hi P vs0 (.func (.func 185) #[] #[.pointer (some ⟨xb, 0, none⟩), .pointer (some ⟨xn, 0, none⟩), .pointer (some ⟨xv, 0, none⟩)]) (fun d N => ([vput 1 n 0 0 0, vput 8 n v.a N d], ((N + 1 : Nat) : Int))) :=
  ⟨_, _, rfl, Go.Proofs.enters_of Try.func185 (by kernel_rfl) rfl, fun W u1 u3 us c base R vv d s r b _ B => k_sel2 W P u1 u3 us c base R vv b B d _ (hb.cap s r) _ _ (hn.cap s r) n0 n1 _ _ (hv.at' s) (hv.lt s) (hv.np r) (hv.nr r)⟩
theorem pc_max0 {W0 : World} {lo hi P : Nat} {vs0 : List Vl} {xb : Nat} (hb : Bx W0 lo hi xb (.pointer (some ⟨P, 0, none⟩))) {xn : Nat} {n : Int} (hn : Bx W0 lo hi xn (.int .i64 n)) (n0 : -1000 ≤ n) (n1 : n ≤ 1000) {xv : Nat} {v : Vl} (hv : Vx W0 lo hi xv v)  : PC W0 lo hi P vs0 (.func (.func 186) #[] #[.pointer (some ⟨xb, 0, none⟩), .pointer (some ⟨xn, 0, none⟩), .pointer (some ⟨xv, 0, none⟩)]) (fun d N => ([vput 3 n v.a v.b 0, vput 1 n 0 0 0, vput 8 n N d ((N + 1 : Nat) : Int)], ((N + 2 : Nat) : Int))) :=
  ⟨_, _, rfl, Go.Proofs.enters_of Try.func186 (by kernel_rfl) rfl, fun W u1 u3 us c base R vv d s r b _ B => k_max0 W P u1 u3 us c base R vv b B d _ (hb.cap s r) _ _ (hn.cap s r) n0 n1 _ _ (hv.at' s)⟩
theorem pc_max1 {W0 : World} {lo hi P : Nat} {vs0 : List Vl} {xb : Nat} (hb : Bx W0 lo hi xb (.pointer (some ⟨P, 0, none⟩))) {xn : Nat} {n : Int} (hn : Bx W0 lo hi xn (.int .i64 n)) (n0 : -1000 ≤ n) (n1 : n ≤ 1000) {xv : Nat} {v : Vl} (hv : Vx W0 lo hi xv v)  : PC W0 lo hi P vs0 (.func (.func 187) #[] #[.pointer (some ⟨xb, 0, none⟩), .pointer (some ⟨xn, 0, none⟩), .pointer (some ⟨xv, 0, none⟩)]) (fun d N => ([vput 3 n v.a v.b 0, vput 1 n 0 0 0, vput 8 n N ((N + 1 : Nat) : Int) d], ((N + 2 : Nat) : Int))) :=
  ⟨_, _, rfl, Go.Proofs.enters_of Try.func187 (by kernel_rfl) rfl, fun W u1 u3 us c base R vv d s r b _ B => k_max1 W P u1 u3 us c base R vv b B d _ (hb.cap s r) _ _ (hn.cap s r) n0 n1 _ _ (hv.at' s)⟩
theorem pc_sum {W0 : World} {lo hi P : Nat} {vs0 : List Vl} {xb : Nat} (hb : Bx W0 lo hi xb (.pointer (some ⟨P, 0, none⟩))) {xv : Nat} {v : Vl} (hv : Vx W0 lo hi xv v) {j : Nat} (ej : v.a = (j : Int)) (hj : j < vs0.length) (n0 : 1 ≤ (vs0.getD j Vl.zero).len) (n1 : (vs0.getD j Vl.zero).len ≤ 1000) : PC W0 lo hi P vs0 (.func (.func 188) #[] #[.pointer (some ⟨xb, 0, none⟩), .pointer (some ⟨xv, 0, none⟩)]) (fun d N => ([vput 10 (vs0.getD j Vl.zero).len d 0 0], N)) :=
  ⟨_, _, rfl, Go.Proofs.enters_of Try.func188 (by kernel_rfl) rfl, fun W u1 u3 us c base R vv d s r b p B => k_sum W P u1 u3 us c base R vv b B d _ (hb.cap s r) _ _ (hv.at' s) (hv.lt s) (hv.np r) (hv.nr r) j ej (p.at_ hj).2 _ (by rw [(p.at_ hj).1]) (by omega) (by omega)⟩
theorem pc_fill {W0 : World} {lo hi P : Nat} {vs0 : List Vl} {xb : Nat} (hb : Bx W0 lo hi xb (.pointer (some ⟨P, 0, none⟩)))  : PC W0 lo hi P vs0 (.func (.func 189) #[] #[.pointer (some ⟨xb, 0, none⟩)]) (fun d N => ([vput 9 1 d 0 0], N)) :=
  ⟨_, _, rfl, Go.Proofs.enters_of Try.func189 (by kernel_rfl) rfl, fun W u1 u3 us c base R vv d s r b _ B => k_fill W P u1 u3 us c base R vv b B.w d _ (hb.cap s r).at_⟩
theorem pc_pick {W0 : World} {lo hi P : Nat} {vs0 : List Vl} {xb : Nat} (hb : Bx W0 lo hi xb (.pointer (some ⟨P, 0, none⟩))) {xv : Nat} {v : Vl} (hv : Vx W0 lo hi xv v) {j : Nat} (ej : v.a = (j : Int)) (hj : j < vs0.length) (n0 : 1 ≤ (vs0.getD j Vl.zero).len) (n1 : (vs0.getD j Vl.zero).len ≤ 1000) : PC W0 lo hi P vs0 (.func (.func 190) #[] #[.pointer (some ⟨xb, 0, none⟩), .pointer (some ⟨xv, 0, none⟩)]) (fun d N => ([vput 12 (vs0.getD j Vl.zero).len d 0 v.c], N)) :=
  ⟨_, _, rfl, Go.Proofs.enters_of Try.func190 (by kernel_rfl) rfl, fun W u1 u3 us c base R vv d s r b p B => k_pick W P u1 u3 us c base R vv b B d _ (hb.cap s r) _ _ (hv.at' s) (hv.lt s) (hv.np r) (hv.nr r) j ej (p.at_ hj).2 _ (by rw [(p.at_ hj).1]) (by omega) (by omega)⟩
theorem pc_put {W0 : World} {lo hi P : Nat} {vs0 : List Vl} {xb : Nat} (hb : Bx W0 lo hi xb (.pointer (some ⟨P, 0, none⟩))) {xv : Nat} {v : Vl} (hv : Vx W0 lo hi xv v)  : PC W0 lo hi P vs0 (.func (.func 191) #[] #[.pointer (some ⟨xb, 0, none⟩), .pointer (some ⟨xv, 0, none⟩)]) (fun d N => ([vput 11 1 d 0 v.c], N)) :=
  ⟨_, _, rfl, Go.Proofs.enters_of Try.func191 (by kernel_rfl) rfl, fun W u1 u3 us c base R vv d s r b _ B => k_put W P u1 u3 us c base R vv b B.w d _ (hb.cap s r).at_ _ _ (hv.at' s)⟩
/-- The parts of value i as data: a row of closures. -/
structure Pts (W0 : World) (lo hi P : Nat) (vs0 : List Vl) (i : Int) (v : Vl) (la : Int) (a : Option Addr) (fv : Nat → Value) : Prop where
  at_ : ∀ k, k < cnt v.op → ∃ g, a = some ⟨g, 0, none⟩ ∧ lo ≤ g ∧ g < hi ∧ W0.cell? ⟨g, k, none⟩ = some (fv k)
  pc : ∀ k, k < cnt v.op → prtB v k = true → PC W0 lo hi P vs0 (fv k) (fun d N => prtM i v la k d N)
  nil : ∀ k, k < cnt v.op → prtB v k = false → fv k = .nilFunc
theorem Pts.mono {W0 W1 : World} {lo hi lo' hi' P : Nat} {vs0 : List Vl} {i : Int} {v : Vl} {la : Int} {a : Option Addr} {fv : Nat → Value} (f : Pts W0 lo hi P vs0 i v la a fv) (s : Same lo hi W0 W1) (h1 : lo' ≤ lo) (h2 : hi ≤ hi') : Pts W1 lo' hi' P vs0 i v la a fv :=
  ⟨fun k hk => by
    obtain ⟨g, e, a1, a2, a3⟩ := f.at_ k hk
    exact ⟨g, e, by omega, by omega, by rw [s.cell a1 a2]; exact a3⟩, fun k hk hb => (f.pc k hk hb).mono s h1 h2, f.nil⟩
def PtO (w : World) (P : Nat) (vs0 : List Vl) (i : Int) (v : Vl) (la : Int) (e : Ending) (w' : World) : Prop :=
  ∃ a m c fv, e = .returned (.slice a m c) ∧ cnt v.op ≤ m ∧ Pts w' w.heap.size w'.heap.size P vs0 i v la a fv ∧ Kept 0 0 w w'
end Go.Proofs.Ytdkjdlimcnddkaa

namespace Go.Proofs.Ytdkjdlimcnddkaa
open Go.RowKit Flt
attribute [local go_sem] alloc_drewN setCell_drewN run_store_float
theorem bx_keep {W0 W1 : World} {lo hi lo' hi' b : Nat} {u : Value} (x : Bx W0 lo hi b u) (k : Kept 0 0 W0 W1) (h : hi ≤ W0.heap.size) (h1 : lo' ≤ lo) (h2 : hi ≤ hi') : Bx W1 lo' hi' b u :=
  ⟨by have := x.lo_; omega, by have := x.hi_; omega, by rw [k.cell (p := ⟨b, 0, none⟩) (by have := x.hi_; show b < _; omega) (by omega)]; exact x.at_⟩
theorem vx_keep {W0 W1 : World} {lo hi lo' hi' b : Nat} {v : Vl} (x : Vx W0 lo hi b v) (k : Kept 0 0 W0 W1) (h : hi ≤ W0.heap.size) (h1 : lo' ≤ lo) (h2 : hi ≤ hi') : Vx W1 lo' hi' b v :=
  ⟨by have := x.lo_; omega, by have := x.hi_; omega, x.at_.keep (by have := x.hi_; omega) k (.inr (.inr (Nat.le_refl _)))⟩
theorem PtO.mk {w w3 : World} {P : Nat} {vs0 : List Vl} {i : Int} {v : Vl} {la : Int} (k3 : Kept 0 0 w w3) (cs : Array Value) (t : TypeId) (m : Nat) (hc : cnt v.op ≤ m)
    (h : ∀ k, k < cnt v.op → ∃ fk, cs[k]? = some fk ∧ (prtB v k = true → PC w3 w.heap.size w3.heap.size P vs0 fk (fun d N => prtM i v la k d N)) ∧ (prtB v k = false → fk = .nilFunc)) (g : Nat) (hg : g = w3.heap.size) :
    PtO w P vs0 i v la (.returned (.slice (some ⟨g, 0, none⟩) m m)) (w3.alloc (.cells cs t)) := by
  have k4 := kept_alloc 0 0 w3 (.cells cs t)
  have z4 : (w3.alloc (.cells cs t)).heap.size = w3.heap.size + 1 := by simp
  subst hg
  have hs := k3.size
  have e : ∀ k fk, cs[k]? = some fk → cs.getD k .nilFunc = fk := fun k fk hk => by
    rw [Array.getD_eq_getD_getElem?, hk]; rfl
  refine ⟨_, _, _, fun k => cs.getD k .nilFunc, rfl, hc, ⟨fun k hk => ⟨w3.heap.size, rfl, hs, by omega, ?_⟩, fun k hk hb => ?_, fun k hk hb => ?_⟩, k3.trans k4⟩
  · obtain ⟨fk, h1, _⟩ := h k hk
    rw [World.cell?_alloc_at _ _ w3.heap.size k rfl, h1, e k fk h1]
  · obtain ⟨fk, h1, h2, _⟩ := h k hk
    simp only [e k fk h1]
    exact (h2 hb).mono ((Same.refl (Nat.le_refl _)).chg (k4.chg (S := fun _ => False)) (fun _ _ _ h => h)) (Nat.le_refl _) (by omega)
  · obtain ⟨fk, h1, _, h3⟩ := h k hk
    simp only [e k fk h1]
    exact h3 hb
set_option maxRecDepth 100000 in
set_option maxHeartbeats 4000000 in
theorem partsOfChoice (w : World) (P : Nat) (vs0 : List Vl) (i : Int) (v : Vl) (la : Int) (n0 : -1000 ≤ v.len) (n1 : v.len ≤ 1000) (ho : v.op = 7 ∨ v.op = 8) :
    Calls Try.prog 180 #[.pointer (some ⟨P, 0, none⟩), v.agg] w fun e w' => PtO w P vs0 i v la e w' := by
  have ka := kept_alloc 0 0 w (.cells #[.pointer (some ⟨P, 0, none⟩)] 70)
  have kb := kept_alloc 0 0 (w.alloc (.cells #[.pointer (some ⟨P, 0, none⟩)] 70)) (vbox v.op v.len v.a v.b v.c v.k)
  have z1 : (w.alloc (.cells #[.pointer (some ⟨P, 0, none⟩)] 70)).heap.size = w.heap.size + 1 := by simp
  have hv := vbox_atJ (w.alloc (.cells #[.pointer (some ⟨P, 0, none⟩)] 70)) v
  rw [z1] at hv
  have z2 : ((w.alloc (.cells #[.pointer (some ⟨P, 0, none⟩)] 70)).alloc (vbox v.op v.len v.a v.b v.c v.k)).heap.size = w.heap.size + 2 := by simp
  have hb : (w.alloc (.cells #[.pointer (some ⟨P, 0, none⟩)] 70)).cell? ⟨w.heap.size, 0, none⟩ = some (.pointer (some ⟨P, 0, none⟩)) := by
    rw [World.cell?_alloc_at _ _ w.heap.size 0 rfl]; rfl
  have HK2 : Hid _ := ka.trans kb
  have HB2 : Hid (Bx ((w.alloc (.cells #[.pointer (some ⟨P, 0, none⟩)] 70)).alloc (vbox v.op v.len v.a v.b v.c v.k)) w.heap.size (w.heap.size + 2) w.heap.size (.pointer (some ⟨P, 0, none⟩))) := ⟨Nat.le_refl _, by omega, by rw [kb.cell (p := ⟨w.heap.size, 0, none⟩) (by rw [z1]; exact Nat.lt_succ_self _) (by omega)]; exact hb⟩
  have HV2 : Hid (Vx ((w.alloc (.cells #[.pointer (some ⟨P, 0, none⟩)] 70)).alloc (vbox v.op v.len v.a v.b v.c v.k)) w.heap.size (w.heap.size + 2) (w.heap.size + 1) v) := ⟨by omega, by omega, hv⟩
  have HZ2 : Hid _ := z2
  clear ka kb z1 hv z2 hb
  go_enter Try.func180, Try.ntmps180
  go_upto_region 1 with fail
  generalize (w.alloc (.cells #[.pointer (some ⟨P, 0, none⟩)] 70)).alloc (vbox v.op v.len v.a v.b v.c v.k) = w2 at HK2 HB2 HV2 HZ2 ⊢
  have kn := kept_alloc 0 0 w2 (.cells #[.int .i64 v.len] 3)
  have z3 : (w2.alloc (.cells #[.int .i64 v.len] 3)).heap.size = w.heap.size + 3 := by have := HZ2.out; simp; omega
  have HN3 : Hid (Bx (w2.alloc (.cells #[.int .i64 v.len] 3)) w.heap.size (w.heap.size + 3) (w.heap.size + 2) (.int .i64 v.len)) := ⟨by omega, by omega, by rw [World.cell?_alloc_at _ _ (w.heap.size + 2) 0 HZ2.out.symm]; rfl⟩
  have HB3 : Hid _ := bx_keep HB2.out kn (by rw [HZ2.out]; exact Nat.le_refl _) (Nat.le_refl _) (show w.heap.size + 2 ≤ w.heap.size + 3 by omega)
  have HV3 : Hid _ := vx_keep HV2.out kn (by rw [HZ2.out]; exact Nat.le_refl _) (Nat.le_refl _) (show w.heap.size + 2 ≤ w.heap.size + 3 by omega)
  have HK3 : Hid _ := HK2.out.trans kn
  have HZ3 : Hid _ := z3
  obtain ⟨v0, v1, v2, v3, v4, v5⟩ := HV2.out.at_
  simp only [Nat.zero_add] at v1 v2 v3 v4 v5
  have hz2 := HZ2.out
  clear kn z3
  go_upto_region 2 with fail
  clear v0 v1 v2 v3 v4 v5
  generalize w2.alloc (.cells #[.int .i64 v.len] 3) = w3 at HN3 HB3 HV3 HK3 HZ3 ⊢
  clear hz2 HK2 HB2 HV2 HZ2
  obtain ⟨v0, v1, v2, v3, v4, v5⟩ := HV3.out.at_
  simp only [Nat.zero_add] at v1 v2 v3 v4 v5
  have HB4 : Hid (Bx w3 w.heap.size w3.heap.size w.heap.size (.pointer (some ⟨P, 0, none⟩))) := by show Bx _ _ _ _ _; rw [HZ3.out]; exact HB3.out
  have HN4 : Hid (Bx w3 w.heap.size w3.heap.size (w.heap.size + 2) (.int .i64 v.len)) := by show Bx _ _ _ _ _; rw [HZ3.out]; exact HN3.out
  have HV4 : Hid (Vx w3 w.heap.size w3.heap.size (w.heap.size + 1) v) := by show Vx _ _ _ _ _; rw [HZ3.out]; exact HV3.out
  rcases ho with ho | ho
  · rw [ho] at v0
    have R : Hid (∀ t g, g = w3.heap.size → PtO w P vs0 i v la (.returned (.slice (some ⟨g, 0, none⟩) 2 2)) (w3.alloc (.cells #[.func (.func 186) #[] #[.pointer (some ⟨w.heap.size, 0, none⟩), .pointer (some ⟨w.heap.size + 2, 0, none⟩), .pointer (some ⟨w.heap.size + 1, 0, none⟩)], .func (.func 187) #[] #[.pointer (some ⟨w.heap.size, 0, none⟩), .pointer (some ⟨w.heap.size + 2, 0, none⟩), .pointer (some ⟨w.heap.size + 1, 0, none⟩)]] t))) := by
      intro t g hg
      refine PtO.mk HK3.out _ t 2 (by rw [ho]; decide) (fun k hk => ?_) g hg
      have hc : cnt v.op = 2 := by rw [ho]; rfl
      rcases (by omega : k = 0 ∨ k = 1) with rfl | rfl
      · refine ⟨_, rfl, fun _ => (pc_max0 HB4.out HN4.out n0 n1 HV4.out).cast ?_, fun hb => ?_⟩
        · funext d N
          unfold prtM
          rw [ho]
          rfl
        · unfold prtB at hb
          rw [ho] at hb
          simp at hb
      · refine ⟨_, rfl, fun _ => (pc_max1 HB4.out HN4.out n0 n1 HV4.out).cast ?_, fun hb => ?_⟩
        · funext d N
          unfold prtM
          rw [ho]
          rfl
        · unfold prtB at hb
          rw [ho] at hb
          simp at hb
    clear HN3 HB3 HV3 HK3 HN4 HB4 HV4 n0 n1 ho
    have hz3 := HZ3.out
    go_wp2_with fail
    go_ret
    exact R.out _ _ (by rw [HZ3.out])
  · rw [ho] at v0
    have R : Hid (∀ t g, g = w3.heap.size → PtO w P vs0 i v la (.returned (.slice (some ⟨g, 0, none⟩) 3 3)) (w3.alloc (.cells #[.nilFunc, .func (.func 184) #[] #[.pointer (some ⟨w.heap.size, 0, none⟩), .pointer (some ⟨w.heap.size + 2, 0, none⟩), .pointer (some ⟨w.heap.size + 1, 0, none⟩)], .func (.func 185) #[] #[.pointer (some ⟨w.heap.size, 0, none⟩), .pointer (some ⟨w.heap.size + 2, 0, none⟩), .pointer (some ⟨w.heap.size + 1, 0, none⟩)]] t))) := by
      intro t g hg
      refine PtO.mk HK3.out _ t 3 (by rw [ho]; decide) (fun k hk => ?_) g hg
      have hc : cnt v.op = 3 := by rw [ho]; rfl
      rcases (by omega : k = 0 ∨ k = 1 ∨ k = 2) with rfl | rfl | rfl
      · refine ⟨_, rfl, fun hb => ?_, fun _ => rfl⟩
        unfold prtB at hb
        rw [ho] at hb
        simp at hb
      · refine ⟨_, rfl, fun _ => (pc_sel1 HB4.out HN4.out n0 n1 HV4.out).cast ?_, fun hb => ?_⟩
        · funext d N
          unfold prtM
          rw [ho]
          rfl
        · unfold prtB at hb
          rw [ho] at hb
          simp at hb
      · refine ⟨_, rfl, fun _ => (pc_sel2 HB4.out HN4.out n0 n1 HV4.out).cast ?_, fun hb => ?_⟩
        · funext d N
          unfold prtM
          rw [ho]
          rfl
        · unfold prtB at hb
          rw [ho] at hb
          simp at hb
    clear HN3 HB3 HV3 HK3 HN4 HB4 HV4 n0 n1 ho
    have hz3 := HZ3.out
    go_wp2_with fail
    go_ret
    exact R.out _ _ (by rw [HZ3.out])
end Go.Proofs.Ytdkjdlimcnddkaa
