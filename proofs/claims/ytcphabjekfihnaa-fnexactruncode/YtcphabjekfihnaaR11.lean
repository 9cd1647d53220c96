import Derived.Test.YtcphabjekfihnaaR10
import Derived.Test.YtcphabjekfihnaaR08
import Derived.Test.YtcphabjekfihnaaV14
import Derived.Test.YtcphabjekfihnaaV07
namespace Go.Proofs.Ytcphabjekfihnaa
open Go.RowKit Flt
attribute [local go_sem] alloc_drewN setCell_drewN run_store_float

theorem SS.b {w : World} {a : Option Addr} {n : Nat} {xss : List (List Nat)} (f : SS w a n xss) : SSb w w.heap.size a n xss := ⟨f.len, Nat.le_refl _, f.at_⟩
/-- The arena behind the first k steps. -/
structure Ar (xss : List (List Nat)) (ss : List Ste) (N k : Nat) (zs : List Nat) : Prop where
  len : zs.length = N
  lt : ∀ z ∈ zs, z < 18446744073709551616
  at_ : ∀ c : Nat, c < N → fb (zs.getD c 0) = fb (cellM ss (resTo xss ss k) k (c : Nat))
theorem Ar.start (xss : List (List Nat)) (ss : List Ste) (N : Nat) : Ar xss ss N 0 (List.replicate N 0) :=
  ⟨by simp, fun z hz => by rw [(List.mem_replicate.1 hz).2]; decide, fun c hc => by
    rw [List.getD_eq_getElem?_getD, List.getElem?_replicate, if_pos hc]; rfl⟩
theorem splice_lt {zs ks : List Nat} {D : Nat} (h : ∀ z ∈ zs, z < 18446744073709551616) (h' : ∀ z ∈ ks, z < 18446744073709551616) : ∀ z ∈ splice zs D ks, z < 18446744073709551616 := fun z hz => by
  unfold splice at hz
  rcases List.mem_append.1 hz with c | c
  · exact h z (List.mem_of_mem_take c)
  · rcases List.mem_append.1 c with c | c
    · exact h' z c
    · exact h z (List.mem_of_mem_drop c)
theorem Ar.step {xss : List (List Nat)} {ss : List Ste} {N k : Nat} {zs : List Nat} (f : Ar xss ss N k zs) {D L : Nat} (hd : (ss.getD k Ste.zero).dst = D) (hl : (ss.getD k Ste.zero).len = L) (hDL : D + L ≤ N) {ks : List Nat} (hk : ks.length = L) (hw : ∀ z ∈ ks, z < 18446744073709551616) (hs : same ks (doM xss ss (resTo xss ss k) k (ss.getD k Ste.zero))) : Ar xss ss N (k + 1) (splice zs D ks) := by
  refine ⟨by rw [length_splice _ _ _ (by rw [hk, f.len]; exact hDL)]; exact f.len, splice_lt f.lt hw, fun c hc => ?_⟩
  rw [splice_at (by rw [hk, f.len]; exact hDL), cellM_succ, hd, hl, hk]
  by_cases h : D ≤ c ∧ c < D + L
  · rw [if_pos h, if_pos (by omega)]
    have e : ((c : Int) - (D : Int)).toNat = c - D := by omega
    rw [e]
    exact same_at hs (c - D)
  · rw [if_neg h, if_neg (by omega)]
    exact f.at_ c hc
theorem Ar.seg {xss : List (List Nat)} {ss : List Ste} {N k : Nat} {zs : List Nat} (f : Ar xss ss N k zs) {o m : Nat} (h : o + m ≤ N) : same (Go.Proofs.Ytcphabjekfihnaa.seg zs o m) (readM ss (resTo xss ss k) k (o : Int) (m : Int)) := by
  refine same_of (by rw [seg_len (by rw [f.len]; exact h), readM_len]; omega) fun j hj => ?_
  rw [seg_len (by rw [f.len]; exact h)] at hj
  rw [seg_at hj, readM_at (by omega), f.at_ (o + j) (by omega)]
  congr 2
/-- A step that Verify has taken, in numbers. -/
theorem step_nums {ins : List Int} {ss : List Ste} {N k : Nat} (h : stepB ins ss (N : Int) k = true) : formB ins (ss.getD k Ste.zero) = true ∧ (∃ D L : Nat, (ss.getD k Ste.zero).dst = D ∧ (ss.getD k Ste.zero).len = L ∧ 1 ≤ L ∧ L ≤ 1000 ∧ D + L ≤ N) ∧ ∀ q, q < cnt (ss.getD k Ste.zero).op → ∃ o m : Nat, (spansOf (ss.getD k Ste.zero)).getD q Spn.zero = ⟨(o : Int), (m : Int)⟩ ∧ 1 ≤ m ∧ o + m ≤ N := by
  unfold stepB at h
  generalize ss.getD k Ste.zero = s at h ⊢
  simp only [Bool.and_eq_true] at h
  obtain ⟨h1, h2, h3⟩ := h
  have hl := form_len h1
  have hw := of_decide_eq_true h2
  refine ⟨h1, ⟨s.dst.toNat, s.len.toNat, by omega, by omega, by omega, by omega, by omega⟩, fun q hq => ?_⟩
  have hq' : q < (spansOf s).length := by rw [spans_len]; exact hq
  have e : (spansOf s).getD q Spn.zero = (spansOf s)[q] := by rw [List.getD_eq_getElem?_getD, List.getElem?_eq_getElem hq']; rfl
  rw [e]
  have hm := List.getElem_mem hq'
  have hp := List.all_eq_true.1 h3 _ hm
  have hpl := spans_lens h1 hm
  unfold takeB at hp
  rw [Bool.and_eq_true] at hp
  have ho := hold_offP hp.1
  generalize (spansOf s)[q] = p at hpl ho ⊢
  obtain ⟨off, len⟩ := p
  simp only at hpl ho
  exact ⟨off.toNat, len.toNat, by congr 1 <;> omega, by omega, by omega⟩
theorem opS_at (zs : List Nat) (po pm : Nat → Nat) (n : Nat) {i : Nat} (hi : i < 3) : (opS zs po pm n).getD i [] = if i < n then seg zs (po i) (pm i) else [] := by
  rcases (by omega : i = 0 ∨ i = 1 ∨ i = 2) with rfl | rfl | rfl <;> rfl
theorem doM_kern {xss : List (List Nat)} {ss : List Ste} {rs : List (List Nat)} {n : Nat} {s : Ste} (h0 : s.op ≠ 0) : doM xss ss rs n s = kern s.op s.len s.c s.k (if 0 < cnt s.op then readM ss rs n (fldS s 0) (lenT s 0) else []) (if 1 < cnt s.op then readM ss rs n (fldS s 1) (lenT s 1) else []) (if 2 < cnt s.op then readM ss rs n (fldS s 2) (lenT s 2) else []) := by
  unfold doM
  rw [if_neg h0]
  rfl
theorem same_ite {p : Prop} [Decidable p] {xs ys : List Nat} (h : p → same xs ys) : same (if p then xs else []) (if p then ys else []) := by
  split
  · rename_i c; exact h c
  · rfl
/-- The kernel on the arena's stretches is the step's answer. -/
theorem kern_step {xss : List (List Nat)} {ss : List Ste} {N k : Nat} {zs : List Nat} (f : Ar xss ss N k zs) (hr : Words (resTo xss ss k)) {s : Ste} (h0 : s.op ≠ 0) (po pm : Nat → Nat) (hsp : ∀ q, q < cnt s.op → fldS s q = (po q : Nat) ∧ lenT s q = (pm q : Nat) ∧ po q + pm q ≤ N) :
    same (kern s.op s.len s.c s.k ((opS zs po pm (cnt s.op)).getD 0 []) ((opS zs po pm (cnt s.op)).getD 1 []) ((opS zs po pm (cnt s.op)).getD 2 [])) (doM xss ss (resTo xss ss k) k s) := by
  rw [doM_kern h0, opS_at _ _ _ _ (by omega), opS_at _ _ _ _ (by omega), opS_at _ _ _ _ (by omega)]
  have key : ∀ q, q < cnt s.op → same (seg zs (po q) (pm q)) (readM ss (resTo xss ss k) k (fldS s q) (lenT s q)) := fun q hq => by
    obtain ⟨e1, e2, e3⟩ := hsp q hq
    rw [e1, e2]
    exact f.seg e3
  refine kern_congr (same_ite (key 0)) (same_ite (key 1)) (same_ite (key 2)) (ite_lt (seg_lt f.lt _ _)) (ite_lt (readM_lt hr _ _ _))
theorem span_fld {s : Ste} {q : Nat} (hq : q < cnt s.op) {o m : Nat} (h : (spansOf s).getD q Spn.zero = ⟨(o : Int), (m : Int)⟩) : fldS s q = o ∧ lenT s q = m := by
  obtain ⟨p, h1, h2, h3⟩ := spansOf_at hq
  rw [List.getD_eq_getElem?_getD, h1] at h
  simp only [Option.getD_some] at h
  rw [← h2, ← h3, h]
  exact ⟨rfl, rfl⟩
/-- An input's step. -/
theorem form_input {ins : List Int} {s : Ste} (h : formB ins s = true) (h0 : s.op = 0) : ∃ j : Nat, s.a = j ∧ j < ins.length ∧ ins.getD j 0 = s.len := by
  unfold formB at h
  rw [if_pos h0] at h
  simp only [Bool.and_eq_true] at h
  have ha := of_decide_eq_true h.2.1
  refine ⟨s.a.toNat, by omega, by omega, beq_iff_eq.1 h.2.2⟩
theorem in_len {ins : List Int} {xss : List (List Nat)} (hi : inB ins xss = true) {j : Nat} (hj : j < ins.length) : ((xss.getD j []).length : Int) = ins.getD j 0 := by
  unfold inB at hi
  rw [Bool.and_eq_true] at hi
  exact beq_iff_eq.1 (List.all_eq_true.1 hi.2 j (List.mem_range.2 hj))

/-- One step carried out by the program, whatever kind it is. -/
theorem carry (w : World) (g N : Nat) (zs : List Nat) (hF : FR w g zs) (hN : N ≤ 50000) (b : Option Addr) (m cb : Nat) (ins : List Int) (xss : List (List Nat)) (ss : List Ste) (k : Nat) (hS : SSb w g b m xss) (hm : m = ins.length) (hX : Words xss) (hi : inB ins xss = true) (hst : stepB ins ss (N : Int) k = true) (f : Ar xss ss N k zs) (hr : Words (resTo xss ss k)) (hK : (ss.getD k Ste.zero).k < 18446744073709551616) (v : Value)
    (hv : ((ss.getD k Ste.zero).op = 0 ∧ v = inAgg (ss.getD k Ste.zero)) ∨ ∃ G, v = kAgg (ss.getD k Ste.zero) G (cnt (ss.getD k Ste.zero).op) ∧ (ss.getD k Ste.zero).op ≠ 0 ∧ SB w G (cnt (ss.getD k Ste.zero).op) (spansOf (ss.getD k Ste.zero))) :
    Calls Try.prog (if (ss.getD k Ste.zero).op = 0 then 218 else 220) #[v, .slice (some ⟨g, 0, none⟩) N N, .slice b m cb] w fun e w' => e = .returned (.tuple #[]) ∧ (∃ zs', FR w' g zs' ∧ Ar xss ss N (k + 1) zs') ∧ Kept g (g + 1) w w' := by
  obtain ⟨hf, ⟨D, L, hd, hl, hl1, hl2, hDN⟩, hsp⟩ := step_nums hst
  have hst' : ∀ {ks : List Nat}, ks.length = L → (∀ z ∈ ks, z < 18446744073709551616) → same ks (doM xss ss (resTo xss ss k) k (ss.getD k Ste.zero)) → Ar xss ss N (k + 1) (splice zs D ks) := fun h1 h2 h3 => f.step hd hl hDN h1 h2 h3
  have hlen := doM_len (ss := ss) (rs := resTo xss ss k) (n := k) hi hf
  rcases hv with ⟨h0, rfl⟩ | ⟨G, rfl, h0, hB⟩
  · rw [if_pos h0]
    obtain ⟨j, ha, hj, hjl⟩ := form_input hf h0
    have hxl := in_len hi hj
    rcases hS.at_ with z | ⟨gb, ob, rfl, y1, y2⟩
    · omega
    obtain ⟨bb, cc, c1, c2, c3⟩ := y2 j (by omega)
    have eL : (xss.getD j []).length = L := by omega
    rw [eL] at c1 c3
    rcases c3.at_ with z | ⟨gc, oc, rfl, _, z2, _, z4⟩
    · omega
    have e : inAgg (ss.getD k Ste.zero) = .agg #[.int .i64 (D : Int), .int .i64 (L : Int), .int .i64 (j : Int)] := by
      unfold inAgg; rw [hd, hl, ha]
    rw [e]
    refine (carry_inN w g N zs hF f.len hN gb ob m cb y1 j D L cc gc oc (xss.getD j []) eL (by omega) c1 z2 z4 hl1 hDN).mono ?_
    rintro e w' ⟨rfl, h1, h2⟩
    refine ⟨rfl, ⟨_, h1, hst' eL (hX j) ?_⟩, h2⟩
    unfold doM
    rw [if_pos h0, ha, Int.toNat_natCast]
    rfl
  · rw [if_neg h0]
    have hp : ∃ po pm : Nat → Nat, ∀ q, q < cnt (ss.getD k Ste.zero).op → (spansOf (ss.getD k Ste.zero)).getD q Spn.zero = ⟨(po q : Int), (pm q : Int)⟩ ∧ 1 ≤ pm q ∧ po q + pm q ≤ N := by
      have hp' : ∀ q, ∃ om : Nat × Nat, q < cnt (ss.getD k Ste.zero).op → (spansOf (ss.getD k Ste.zero)).getD q Spn.zero = ⟨(om.1 : Int), (om.2 : Int)⟩ ∧ 1 ≤ om.2 ∧ om.1 + om.2 ≤ N := fun q => by
        by_cases hq : q < cnt (ss.getD k Ste.zero).op
        · obtain ⟨o, mm, h1, h2, h3⟩ := hsp q hq
          exact ⟨(o, mm), fun _ => ⟨h1, h2, h3⟩⟩
        · exact ⟨(0, 0), fun c => absurd c hq⟩
      obtain ⟨F, hF9⟩ := Classical.axiomOfChoice hp'
      exact ⟨fun q => (F q).1, fun q => (F q).2, fun q hq => hF9 q hq⟩
    obtain ⟨po, pm, hpp⟩ := hp
    have hks := kern_step f hr h0 po pm (fun q hq => by
      obtain ⟨h1, h2, h3⟩ := hpp q hq
      obtain ⟨h4, h5⟩ := span_fld hq h1
      exact ⟨h4, h5, h3⟩)
    have hkl := same_len hks
    generalize hs9 : ss.getD k Ste.zero = s at *
    have e : kAgg s G (cnt s.op) = .agg #[.int .i64 (D : Int), .int .i64 (L : Int), .int .i64 s.op, .int .i64 (L : Int), .int .i64 s.a, .int .i64 s.b, .int .i64 s.c, .float .f64 s.k, .slice (some ⟨G, 0, none⟩) (cnt s.op) 3] := by
      unfold kAgg; rw [hd, hl]
    rw [e]
    rw [hl] at hks hkl
    refine (carry_kN w g N zs hF f.len hN f.lt b m cb s.op s.a s.b s.c s.k hK D L (cnt s.op) G (cnt_le _) hl1 hDN po pm hB.lt (fun q hq => by rw [← (hpp q hq).1]; exact hB.at_ q hq) (fun q hq => (hpp q hq).2) (by omega)).mono ?_
    rintro e w' ⟨rfl, ⟨ks, h1, h2, h3⟩, h4⟩
    have h5 := same_trans h2 hks
    have h6 := same_len h5
    exact ⟨rfl, ⟨_, h1, hst' (by omega) h3 h5⟩, h4⟩
end Go.Proofs.Ytcphabjekfihnaa

namespace Go.Proofs.Ytcphabjekfihnaa
open Go.RowKit Flt
attribute [local go_sem] alloc_drewN setCell_drewN run_store_float

set_option maxRecDepth 100000 in
set_option maxHeartbeats 2000000 in
theorem implRun_bad (w : World) (a1 a2 a3 b : Option Addr) (n1 c1 n2 c2 n3 c3 m cb : Nat) (pk : Int) (ins : List Int) (ss : List Ste) (os : List Spn) (f : CS w a1 n1 a2 n2 a3 n3 ins ss os) (h : verM ins ss os pk = false) :
    Calls Try.prog 61 #[cagg a1 n1 c1 a2 n2 c2 a3 n3 c3 pk, .slice b m cb] w fun e w' => e = .returned (.tuple #[.slice none 0 0, .int .i64 0, .int .i64 1]) ∧ Kept 0 0 w w' := by
  have hK := kept_alloc 0 0 w (cbox a1 n1 c1 a2 n2 c2 a3 n3 c3 pk)
  have HX : Hid _ := implVer _ a1 a2 a3 n1 c1 n2 c2 n3 c3 pk ins ss os (f.keep hK)
  rw [h] at HX
  have HK : Hid _ := hK
  clear hK h f
  go_enter Try.func61, Try.ntmps61
  go_wp2_with fail
  refine Calls.mono HX.out ?_
  rintro e w2 ⟨rfl, k2⟩
  go_wp2
  refine bodyPost_ret (v := .tuple #[.slice none 0 0, .int .i64 0, .int .i64 1]) (by simp [results, Try.results61, go_sem]) rfl ⟨rfl, Kept.trans HK.out k2⟩
set_option maxRecDepth 100000 in
set_option maxHeartbeats 2000000 in
theorem implRun_shape (w : World) (a1 a2 a3 b : Option Addr) (n1 c1 n2 c2 n3 c3 m cb : Nat) (pk : Int) (ins : List Int) (ss : List Ste) (os : List Spn) (xss : List (List Nat)) (f : CS w a1 n1 a2 n2 a3 n3 ins ss os) (s : SS w b m xss) (h : verM ins ss os pk = true) (h2 : inB ins xss = false) (hn : n1 ≤ 1048576) :
    Calls Try.prog 61 #[cagg a1 n1 c1 a2 n2 c2 a3 n3 c3 pk, .slice b m cb] w fun e w' => e = .returned (.tuple #[.slice none 0 0, .int .i64 0, .int .i64 4]) ∧ Kept 0 0 w w' := by
  have hK := kept_alloc 0 0 w (cbox a1 n1 c1 a2 n2 c2 a3 n3 c3 pk)
  have HX : Hid _ := implVer _ a1 a2 a3 n1 c1 n2 c2 n3 c3 pk ins ss os (f.keep hK)
  rw [h] at HX
  have HB : Hid _ := c0_start w (.slice a1 n1 c1) (.slice a2 n2 c2) (.slice a3 n3 c3) (.int .i64 pk)
  have HF : Hid _ := f.keep hK
  have HS : Hid _ := s.keep hK
  have HK : Hid _ := hK
  clear hK h f s
  go_enter Try.func61, Try.ntmps61
  go_wp2_with fail
  refine Calls.mono HX.out ?_
  rintro e w2 ⟨rfl, k2⟩
  obtain ⟨_, q0, q1, q2, q3⟩ := C0.keep HB.out k2
  have HY : Hid _ := inputsFit w2 _ _ a1 b n1 m c1 cb ins xss (CS.keep HF.out k2).i (SS.keep HS.out k2) (by omega)
  rw [h2] at HY
  have HK2 : Hid _ := Kept.trans HK.out k2
  clear k2 HX HK HF HS HB
  go_wp2_with fail
  refine Calls.mono HY.out ?_
  rintro e w3 ⟨rfl, k3⟩
  go_wp2
  refine bodyPost_ret (v := .tuple #[.slice none 0 0, .int .i64 0, .int .i64 4]) (by simp [results, Try.results61, go_sem]) rfl ⟨rfl, Kept.trans HK2.out (k3.kept 0 0)⟩

theorem ver_lims {ins : List Int} {ss : List Ste} {os : List Spn} {pk : Int} (h : verM ins ss os pk = true) : (ins.length ≤ 20 ∧ ss.length ≤ 2000 ∧ os.length ≤ 50 ∧ 0 ≤ pk ∧ pk ≤ 50000) ∧ (List.range ss.length).all (stepB ins ss pk) = true ∧ os.all (outB ss pk) = true := by
  unfold verM at h
  simp only [Bool.and_eq_true] at h
  obtain ⟨⟨h1, h2⟩, h3⟩ := h
  unfold limC at h1
  simp only [Bool.and_eq_true, decide_eq_true_eq] at h1
  exact ⟨by omega, h2, h3⟩
theorem out_nums {ss : List Ste} {os : List Spn} {N j : Nat} (h : os.all (outB ss (N : Int)) = true) (hj : j < os.length) : ∃ o m : Nat, os.getD j Spn.zero = ⟨(o : Int), (m : Int)⟩ ∧ 1 ≤ m ∧ m ≤ 1000 ∧ o + m ≤ N := by
  have e : os.getD j Spn.zero = os[j] := by rw [List.getD_eq_getElem?_getD, List.getElem?_eq_getElem hj]; rfl
  rw [e]
  have hp := List.all_eq_true.1 h _ (List.getElem_mem hj)
  generalize os[j] = p at hp ⊢
  unfold outB at hp
  rw [Bool.and_eq_true] at hp
  have h1 := of_decide_eq_true hp.1
  have h2 := hold_offP hp.2
  obtain ⟨off, len⟩ := p
  simp only at h1 h2
  exact ⟨off.toNat, len.toNat, by congr 1 <;> omega, by omega, by omega, by omega⟩
theorem getKS {ss : List Ste} (h : ∀ v ∈ ss, v.k < 18446744073709551616) (k : Nat) : (ss.getD k Ste.zero).k < 18446744073709551616 := getKSte h k

set_option maxRecDepth 100000 in
set_option maxHeartbeats 8000000 in
theorem implRun_ok (w : World) (a1 a2 a3 b : Option Addr) (n1 c1 n2 c2 n3 c3 m cb : Nat) (pk : Int) (ins : List Int) (ss : List Ste) (os : List Spn) (xss : List (List Nat)) (f : CS w a1 n1 a2 n2 a3 n3 ins ss os) (s : SS w b m xss) (hw : Words xss) (h : verM ins ss os pk = true) (h2 : inB ins xss = true) :
    Calls Try.prog 61 #[cagg a1 n1 c1 a2 n2 c2 a3 n3 c3 pk, .slice b m cb] w fun e w' => ∃ G gf cf zss, e = .returned (.tuple #[.slice (some ⟨G, 0, none⟩) n3 n3, .int .i64 (n2 : Int), .int .i64 0]) ∧ w.heap.size ≤ G ∧ SP w' G n3 n3 gf cf zss ∧ zss.length = n3 ∧ (∀ j, j < n3 → same (zss.getD j []) ((runM xss ss os).getD j [])) ∧ Kept 0 0 w w' := by
  obtain ⟨⟨l1, l2, l3, p0, p1⟩, hst, hou⟩ := ver_lims h
  have e1 := f.i.len
  have e2 := f.s.len
  have e3 := f.o.len
  rw [e1] at l1
  rw [e2] at l2 hst
  rw [e3] at l3
  obtain ⟨N, rfl⟩ := Int.eq_ofNat_of_zero_le p0
  have HST : Hid _ := hst
  have HOU : Hid _ := hou
  have HKS : Hid _ := getKS f.s.lt
  have HR : Hid _ := fun k => res_lt (ss := ss) hw (getKS f.s.lt) k
  have HXW : Hid _ := hw
  have HIN : Hid _ := h2
  have HM : Hid (m = ins.length) := by
    have := h2
    unfold inB at this
    simp only [Bool.and_eq_true, decide_eq_true_eq, s.len] at this
    exact this.1
  have hK := kept_alloc 0 0 w (cbox a1 n1 c1 a2 n2 c2 a3 n3 c3 (N : Int))
  have HX : Hid _ := implVer _ a1 a2 a3 n1 c1 n2 c2 n3 c3 (N : Int) ins ss os (f.keep hK)
  rw [h] at HX
  have HB : Hid _ := c0_start w (.slice a1 n1 c1) (.slice a2 n2 c2) (.slice a3 n3 c3) (.int .i64 (N : Int))
  have HF : Hid _ := f.keep hK
  have HS : Hid _ := s.keep hK
  have HK : Hid _ := hK
  clear hK h f s hst hou hw
  go_enter Try.func61, Try.ntmps61
  go_wp2_with fail
  generalize w.alloc (cbox a1 n1 c1 a2 n2 c2 a3 n3 c3 (N : Int)) = w1 at HX HB HF HS HK ⊢
  refine Calls.mono HX.out ?_
  rintro e w2 ⟨rfl, k2⟩
  obtain ⟨_, q0, q1, q2, q3⟩ := C0.keep HB.out k2
  have HY : Hid _ := inputsFit w2 _ _ a1 b n1 m c1 cb ins xss (CS.keep HF.out k2).i (SS.keep HS.out k2) (by omega)
  rw [h2] at HY
  have HK2 : Hid _ := k2
  clear k2 HX h2
  go_wp2_with fail
  clear q0 q1 q2 q3
  refine Calls.mono HY.out ?_
  rintro e w3 ⟨rfl, d3⟩
  have k3 := Kept.trans HK2.out (d3.kept 0 0)
  have hm := make_f N w3 (by omega)
  have ka := kept_alloc 0 0 w3 (.cells (madeCells #[.float .f64 0] N) 23)
  have HB3 : Hid _ := HB.out.keep k3
  have HFR : Hid (FR (w3.alloc (.cells (madeCells #[.float .f64 0] N) 23)) w3.heap.size (List.replicate N 0)) := FR.made w3 N
  have HF3 := HF.out.keep k3
  have HT3 : Hid (TS (w3.alloc (.cells (madeCells #[.float .f64 0] N) 23)) 0 w3.heap.size a2 n2 ss) := HF3.s.keep ka (.inr (.inr (Nat.le_refl _)))
  have HO3 : Hid (PS (w3.alloc (.cells (madeCells #[.float .f64 0] N) 23)) 0 w3.heap.size a3 n3 os) := HF3.o.keep ka (.inr (.inr (Nat.le_refl _)))
  have HS3 : Hid (SSb (w3.alloc (.cells (madeCells #[.float .f64 0] N) 23)) w3.heap.size b m xss) := (SS.b (HS.out.keep k3)).keep ka (.inr (Nat.le_refl _))
  have HG : Hid (w.heap.size < w3.heap.size) := HB3.out.sz
  obtain ⟨_, q0, q1, q2, q3⟩ := HB3.out
  have HB4 : Hid _ := HB3.out.keep ka
  obtain ⟨_, r0, r1, r2, r3⟩ := HB4.out
  have HKK : Hid _ := Kept.trans HK.out (Kept.trans k3 ka)
  have HG2 : Hid (w3.heap.size < (w3.alloc (.cells (madeCells #[.float .f64 0] N) 23)).heap.size) := by show _ < _; simp
  clear d3 k3 ka HY HK2 HB HF HS HF3 HK HB3
  generalize hg9 : w3.heap.size = g at hm HFR HT3 HO3 HS3 HG HG2
  generalize w3.alloc (.cells (madeCells #[.float .f64 0] N) 23) = w4 at hm HFR HT3 HO3 HS3 HB4 HKK HG2 r0 r1 r2 r3
  clear hg9
  go_wp2_with fail
  clear q0 q1 q2 q3 r0 r1 r2 r3 hm
  go_loopw [27] (fun x W => ∃ k : Nat, k ≤ n2 ∧ x = .int .i64 k ∧ Hid (∃ zs, FR W g zs ∧ Ar xss ss N k zs) ∧ Hid (Kept g (g + 1) w4 W)) (fun x _ => n2 - (intOf x).toNat)
  case atStart => exact ⟨0, Nat.zero_le _, rfl, ⟨_, HFR.out, Ar.start xss ss N⟩, Kept.refl _ _ _⟩
  case round =>
    obtain ⟨k, hk, rfl, hZ, hV⟩ := hrel
    clear HFR
    by_cases hlt : k < n2
    · obtain ⟨zs, hFR, hAr⟩ := hZ.out
      rcases (HT3.out.keep hV.out (.inl (Nat.le_refl _))).at_ with z0 | ⟨ga, oa, ea, z1, z2, z3, z4⟩
      · omega
      have hat := z4 k hlt
      have hgw : g < wr.heap.size := Nat.lt_of_lt_of_le HG2.out hV.out.size
      have HFR : Hid (FR wr g zs) := hFR
      have HAr : Hid _ := hAr
      have hstk : stepB ins ss (N : Int) k = true := List.all_eq_true.1 HST.out k (List.mem_range.2 hlt)
      have HCA : Hid (∀ w', Kept 0 0 wr w' → ∀ v, (((ss.getD k Ste.zero).op = 0 ∧ v = inAgg (ss.getD k Ste.zero)) ∨ ∃ G, v = kAgg (ss.getD k Ste.zero) G (cnt (ss.getD k Ste.zero).op) ∧ (ss.getD k Ste.zero).op ≠ 0 ∧ SB w' G (cnt (ss.getD k Ste.zero).op) (spansOf (ss.getD k Ste.zero))) → Calls Try.prog (if (ss.getD k Ste.zero).op = 0 then 218 else 220) #[v, .slice (some ⟨g, 0, none⟩) N N, .slice b m cb] w' fun e w'' => e = .returned (.tuple #[]) ∧ (∃ zs', FR w'' g zs' ∧ Ar xss ss N (k + 1) zs') ∧ Kept g (g + 1) w' w'') := fun w' q v hv =>
        carry w' g N zs (FR.keep (w := wr) (g := g) (xs := zs) HFR.out q (.inr (.inr (Nat.le_refl _)))) (by omega) b m cb ins xss ss k ((HS3.out.keep hV.out (.inl (Nat.le_refl _))).keep q (.inr (Nat.le_refl _))) HM.out HXW.out HIN.out hstk HAr.out (HR.out k) (HKS.out k) v hv
      generalize ss.getD k Ste.zero = s at hat HCA
      have ka := kept_alloc 0 0 wr s.box
      have HP : Hid _ := ste_box wr s
      have hP : wr.heap.size < (wr.alloc s.box).heap.size := by simp
      subst ea
      obtain ⟨d0, d1, d2, d3, d4, d5, d6, d7⟩ := hat
      obtain ⟨x0, x1, x2, x3, x4, x5, x6, x7⟩ := HP.out
      simp only [Nat.zero_add] at x1 x2 x3 x4 x5 x6 x7
      clear z1 z2 z3 z4 hZ hFR hAr HFR HAr hstk
      go_wp2_with fail
      clear d0 d1 d2 d3 d4 d5 d6 d7 x0 x1 x2 x3 x4 x5 x6 x7
      have HV4 : Hid (Kept g (g + 1) w4 (wr.alloc s.box)) := Kept.trans hV.out (ka.mono fun b _ c => by omega)
      by_cases h0 : s.op = 0
      · have HMc : ∀ w : World, (method 325 188 (inAgg s) "loop.example/s08086/impl.carryOut").run Try.prog w = .ok (218, inAgg s) w := fun _ => by kernel_rfl
        refine Calls.mono (opStep_in (wr.alloc s.box) s h0) ?_
        rintro e w6 ⟨rfl, k6⟩
        have HV6 : Hid _ := Kept.trans HV4.out (k6.mono (lo' := g) (hi' := g + 1) fun b _ c => by omega)
        have HCA2 : Hid _ := HCA.out w6 (ka.trans k6) (inAgg s) (.inl ⟨h0, rfl⟩)
        rw [if_pos h0] at HCA2
        clear k6 ka HCA HV4
        go_wp2_with fail
        refine Calls.mono HCA2.out ?_
        rintro e w7 ⟨rfl, hz7, k7⟩
        have R1 : Hid _ := hz7
        have R2 : Hid _ := Kept.trans HV6.out k7
        clear HCA2 hz7 k7
        go_wp2
        go_roundw
        case rel => exact ⟨k + 1, by omega, by go_num, R1, R2⟩
        case measure => simp [intOf]; omega
      · refine Calls.mono (opStep_k (wr.alloc s.box) s h0) ?_
        rintro e w6 ⟨G, rfl, hSB, _, k6⟩
        have HMc : ∀ w : World, (method 325 190 (kAgg s G (cnt s.op)) "loop.example/s08086/impl.carryOut").run Try.prog w = .ok (220, kAgg s G (cnt s.op)) w := fun _ => by kernel_rfl
        have HV6 : Hid _ := Kept.trans HV4.out (k6.mono (lo' := g) (hi' := g + 1) fun b _ c => by omega)
        have HCA2 : Hid _ := HCA.out w6 (ka.trans k6) (kAgg s G (cnt s.op)) (.inr ⟨G, rfl, h0, hSB⟩)
        rw [if_neg h0] at HCA2
        clear k6 ka HCA HV4 hSB
        go_wp2_with fail
        refine Calls.mono HCA2.out ?_
        rintro e w7 ⟨rfl, hz7, k7⟩
        have R1 : Hid _ := hz7
        have R2 : Hid _ := Kept.trans HV6.out k7
        clear HCA2 hz7 k7
        go_wp2
        go_roundw
        case rel => exact ⟨k + 1, by omega, by go_num, R1, R2⟩
        case measure => simp [intOf]; omega
    · obtain ⟨zs, hFR, hAr⟩ := hZ.out
      obtain rfl : k = n2 := by omega
      obtain ⟨w5, hw5⟩ : ∃ w5, w5 = wr := ⟨_, rfl⟩
      subst hw5
      have HFR : Hid (FR w5 g zs) := hFR
      have HAr : Hid _ := hAr
      have HB5 : Hid _ := HB4.out.keepR hV.out (.inl HG.out)
      have hm := make_s n3 w5 (by omega)
      have kk := kept_alloc 0 0 w5 (.cells (madeCells #[.slice none 0 0] n3) 38)
      obtain ⟨_, q0, q1, q2, q3⟩ := HB5.out
      have HB6 : Hid _ := HB5.out.keep kk
      obtain ⟨_, r0, r1, r2, r3⟩ := HB6.out
      have HO5 : Hid _ := HO3.out.keep hV.out (.inl (Nat.le_refl _))
      have HS0 : Hid _ := SP.made w5 n3 id id (os.map fun p => seg zs p.off.toNat p.len.toNat)
      have HK5 : Hid _ := kk
      have HGW : Hid (g < w5.heap.size ∧ w.heap.size < g) := ⟨Nat.lt_of_lt_of_le HG2.out hV.out.size, HG.out⟩
      have HKW : Hid (Kept 0 0 w w5) := HKK.out.new hV.out (Nat.le_of_lt HG.out)
      have HB5' : Hid _ := HB5
      clear hZ hFR hAr kk hV HT3 HO3 HS3 HB4 HKK HB5
      generalize w5.alloc (.cells (madeCells #[.slice none 0 0] n3) 38) = w6 at hm HS0 HK5 HB6 r0 r1 r2 r3
      go_wp2_with fail
      clear hm q0 q1 q2 q3 r0 r1 r2 r3
      go_loopw [44] (fun i W => ∃ j : Nat, j ≤ n3 ∧ i = .int .i64 j ∧ Hid (∃ gf cf, SP W w5.heap.size n3 j gf cf (os.map fun p => seg zs p.off.toNat p.len.toNat)) ∧ Hid (Kept 0 0 w5 W)) (fun i _ => n3 - (intOf i).toNat)
      case atStart => exact ⟨0, Nat.zero_le _, rfl, ⟨id, id, HS0.out⟩, HK5⟩
      case round =>
        obtain ⟨j, hj, rfl, hP, hK⟩ := hrel
        clear HS0 HK5 HB6
        obtain ⟨gf, cf, hP⟩ := hP.out
        by_cases hlt : j < n3
        · rcases (HO5.out.keep hK.out (.inr (.inr (Nat.le_refl _)))).at_ with z0 | ⟨ga, oa, ea, z1, z2, z3, z4⟩
          · omega
          have hat := z4 j hlt
          obtain ⟨o, mm, ho, ho1, ho2, ho3⟩ := out_nums HOU.out (by rw [e3]; exact hlt)
          have hy : (os.map fun p => seg zs p.off.toNat p.len.toNat).getD j [] = seg zs o mm := by
            have e : os.getD j Spn.zero = os[j]'(by omega) := by rw [List.getD_eq_getElem?_getD, List.getElem?_eq_getElem (by omega)]; rfl
            rw [List.getD_eq_getElem?_getD, List.getElem?_map, List.getElem?_eq_getElem (by omega)]
            simp only [Option.map_some, Option.getD_some]
            rw [← e, ho]
            simp only [Int.toNat_natCast]
          have hsl : (seg zs o mm).length = mm := seg_len (by rw [HAr.out.len]; exact ho3)
          have HST2 : Hid (∀ {w' : World} {G c : Nat}, Kept 0 0 wr w' → FO w' G _ _ → wr.heap.size ≤ G → _ ≤ c → _) := fun q ho hG hc => hP.step hlt q ho hG hc
          rw [hy, hsl] at HST2
          rw [ho] at hat
          have HPK : Hid (∀ w', Kept 0 0 wr w' → w'.frozen? ⟨w5.heap.size, j, none⟩ = false ∧ ∃ u, w'.cell? ⟨w5.heap.size, j, none⟩ = some u) := fun w' q => ⟨(hP.keep q).free j, (hP.keep q).rest j hlt⟩
          have ka := kept_alloc 0 0 wr (Spn.mk (o : Int) (mm : Int)).box
          have HP2 := spn_box wr (Spn.mk (o : Int) (mm : Int))
          obtain ⟨x0, x1⟩ := HP2
          rw [Nat.zero_add] at x1
          have HC : Hid (∀ w, Calls Try.prog 143 #[(Spn.mk (o : Int) (mm : Int)).agg, .slice (some ⟨g, 0, none⟩) N N] w fun e w' => e = .returned (.slice (some ⟨g, o, none⟩) mm (N - o)) ∧ Kept 0 0 w w') := fun w => spanCells w g N N o mm ho1 ho3 (by omega)
          have HCL : Hid (∀ w', Kept 0 0 wr w' → Calls Try.prog 112 #[.slice (some ⟨g, o, none⟩) mm (N - o)] w' fun e w'' => ∃ G cap, e = .returned (.slice (some ⟨G, 0, none⟩) mm cap) ∧ mm ≤ cap ∧ FO w'' G mm (seg zs o mm) ∧ w'.heap.size ≤ G ∧ Kept 0 0 w' w'') := fun w' q => by
            have hf : FR w' g zs := FR.keep (w := w5) (g := g) (xs := zs) HFR.out (Kept.trans hK.out q) (.inr (.inr (Nat.le_refl _)))
            exact clone w' g o mm (N - o) (seg zs o mm) ho1 (by omega) hf.lt hsl (seg_lt HAr.out.lt o mm) (fun i hi => by rw [seg_at hi]; exact hf.cell (o + i) (by rw [HAr.out.len]; omega))
          subst ea
          obtain ⟨d0, d1⟩ := hat
          clear z1 z2 z3 z4 hy hP ho
          generalize seg zs o mm = ys at HST2 HCL
          go_wp2_with fail
          clear d0 d1 x0 x1
          refine Calls.mono (HC.out _) ?_
          rintro e w7 ⟨rfl, k7⟩
          have kk7 := ka.trans k7
          go_wp2_with fail
          refine Calls.mono (HCL.out _ kk7) ?_
          rintro e w8 ⟨G, cap, rfl, h8, f8, b8, k8⟩
          have kk8 := kk7.trans k8
          have R1 : Hid _ := HST2.out kk8 f8 (Nat.le_trans kk7.size b8) h8
          have R2 : Hid _ := kept_put w5 w8 (Kept.trans hK.out kk8) w5.heap.size j (.slice (some ⟨G, 0, none⟩) mm cap) (Nat.le_refl _)
          obtain ⟨fz, u, hu⟩ := HPK.out w8 kk8
          clear HC HCL HST2 HPK f8 k8 k7 ka kk7 kk8 hK
          go_wp2
          go_roundw
          case rel => exact ⟨j + 1, by omega, by go_num, ⟨_, _, R1.out⟩, R2⟩
          case measure => simp [intOf]; omega
        · obtain rfl : j = n3 := by omega
          have R1 : Hid (Kept 0 0 w wr) := Kept.trans HKW.out hK.out
          have R2 : Hid (∀ i, i < j → same ((os.map fun p => seg zs p.off.toNat p.len.toNat).getD i []) ((runM xss ss os).getD i [])) := fun i hi => by
            obtain ⟨o, mm, ho, ho1, ho2, ho3⟩ := out_nums HOU.out (by rw [e3]; exact hi)
            have e : os.getD i Spn.zero = os[i]'(by omega) := by rw [List.getD_eq_getElem?_getD, List.getElem?_eq_getElem (by omega)]; rfl
            unfold runM
            rw [List.getD_eq_getElem?_getD, List.getElem?_map, List.getD_eq_getElem?_getD, List.getElem?_map, List.getElem?_eq_getElem (by omega)]
            simp only [Option.map_some, Option.getD_some]
            rw [← e, ho, e2]
            simp only [Int.toNat_natCast]
            exact HAr.out.seg ho3
          have R3 : Hid _ := hP
          obtain ⟨_, q0, q1, q2, q3⟩ := HB5'.out.keep hK.out
          clear hP hK
          go_wp2_with fail
          go_quiet (fail)
          go_wp2
          go_ret3
          exact ⟨w5.heap.size, gf, cf, _, rfl, by have := HGW.out; omega, R3.out.keep (kept_drewN 0 0 _ _), by rw [List.length_map]; exact e3, R2.out, Kept.trans R1.out (kept_drewN 0 0 _ _)⟩
end Go.Proofs.Ytcphabjekfihnaa
