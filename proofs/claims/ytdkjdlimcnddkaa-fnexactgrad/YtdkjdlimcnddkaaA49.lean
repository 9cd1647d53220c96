import Derived.Test.YtdkjdlimcnddkaaA48
namespace Go.Proofs.Ytdkjdlimcnddkaa
open Go.RowKit Flt

/-- What Jvp answers, as data: the three lists, the index, the code. -/
structure GRs where
  ins : List Int
  vs : List Vl
  outs : List Int
  at' : Int
  code : Int
def GRs.bad (c : Int) : GRs := ⟨[], [], [], 0, c⟩
def gres (ins : List Int) (vs : List Vl) (outs : List Int) (s x : Int) : GRs :=
  if okG ins vs outs = false then .bad 1
  else if ¬ ((0 ≤ s ∧ s < vs.length) ∧ (0 ≤ x ∧ x < vs.length)) then .bad 1
  else if (vs.getD s.toNat Vl.zero).len ≠ 1 then .bad 4
  else if limB (grM vs s.toNat x.toNat).1 = true then .bad 5
  else ⟨ins, (grM vs s.toNat x.toNat).1, outs, (grM vs s.toNat x.toNat).2, 0⟩
/-- The answer of the model: a graph that is read. -/
def GS1 (w : World) (J : GRs) (e : Ending) (w' : World) : Prop :=
  (∃ a1 c1 a2 c2 a3 c3, e = .returned (.tuple #[gagg a1 J.ins.length c1 a2 J.vs.length c2 a3 J.outs.length c3, .int .i64 J.at', .int .i64 J.code]) ∧ GS w' a1 J.ins.length a2 J.vs.length a3 J.outs.length J.ins J.vs J.outs) ∧ Kept 0 0 w w'
/-- The answer of the program: besides, its lists lie in blocks of their own that came behind w. -/
def GS2 (w : World) (J : GRs) (e : Ending) (w' : World) : Prop :=
  (∃ a1 c1 a2 c2 a3 c3, e = .returned (.tuple #[gagg a1 J.ins.length c1 a2 J.vs.length c2 a3 J.outs.length c3, .int .i64 J.at', .int .i64 J.code]) ∧ (∀ v ∈ J.vs, v.k < 18446744073709551616) ∧
    ∀ H, w'.heap.size ≤ H → ∃ g1 g2 g3, OG w' g1 g2 g3 a1 J.ins.length a2 J.vs.length a3 J.outs.length J.ins J.vs J.outs ∧ (w.heap.size ≤ g1 ∧ w.heap.size ≤ g2 ∧ w.heap.size ≤ g3) ∧ ((g1 < w'.heap.size ∨ H < g1) ∧ (g2 < w'.heap.size ∨ H < g2) ∧ (g3 < w'.heap.size ∨ H < g3))) ∧ Kept 0 0 w w'
theorem gs1_bad {w w' : World} (c : Int) (k : Kept 0 0 w w') : GS1 w (.bad c) (.returned (.tuple #[gnil, .int .i64 0, .int .i64 c])) w' := ⟨⟨none, 0, none, 0, none, 0, rfl, gs_nil w'⟩, k⟩
theorem gs2_bad {w w' : World} (c : Int) (k : Kept 0 0 w w') : GS2 w (.bad c) (.returned (.tuple #[gnil, .int .i64 0, .int .i64 c])) w' :=
  ⟨⟨none, 0, none, 0, none, 0, rfl, by simp [GRs.bad], fun H hH => ⟨H + 1, H + 2, H + 3, ⟨.inl rfl, .inl rfl, .inl rfl, by omega, by omega, by omega⟩, by have := k.size; omega, by omega⟩⟩, k⟩

theorem gres_len {ins : List Int} {vs : List Vl} {outs : List Int} {s x : Int} (h1 : ins.length ≤ 1048576) (h3 : outs.length ≤ 1048576) : (gres ins vs outs s x).ins.length ≤ 1048576 ∧ (gres ins vs outs s x).vs.length ≤ 1048576 ∧ (gres ins vs outs s x).outs.length ≤ 1048576 := by
  unfold gres
  repeat' split
  all_goals try exact ⟨Nat.zero_le _, Nat.zero_le _, Nat.zero_le _⟩
  rename_i hb
  have := of_decide_eq_false (by simpa using hb : limB (grM vs s.toNat x.toNat).1 = false)
  exact ⟨h1, by simp only; omega, h3⟩
theorem specG (w : World) (lo g1 g2 g3 n1 c1 n2 c2 n3 c3 : Nat) (s x : Int) (ins : List Int) (vs : List Vl) (outs : List Int) (f : GO w lo g1 g2 g3 n2 ins vs outs) (e1 : ins.length = n1) (e3 : outs.length = n3) (hlt : ∀ v ∈ vs, v.k < 18446744073709551616) :
    Calls Try.prog 8 #[gagg (some ⟨g1, 0, none⟩) n1 c1 (some ⟨g2, 0, none⟩) n2 c2 (some ⟨g3, 0, none⟩) n3 c3, .int .i64 s, .int .i64 x] w fun e w' => GS1 w (gres ins vs outs s x) e w' := by
  have hgs := f.gs hlt
  rw [e1, e3] at hgs
  have e2 : vs.length = n2 := f.v.len
  unfold gres
  cases h : okG ins vs outs
  · rw [if_pos rfl]
    exact (specGrad_inv w _ _ _ n1 c1 n2 c2 n3 c3 s x ins vs outs hgs h).mono fun _ _ q => by rw [q.1]; exact gs1_bad 1 q.2
  rw [if_neg (by simp), e2]
  by_cases hi : (0 ≤ s ∧ s < n2) ∧ (0 ≤ x ∧ x < n2)
  · rw [if_neg (fun c => c hi)]
    obtain ⟨s', rfl⟩ := Int.eq_ofNat_of_zero_le hi.1.1
    obtain ⟨x', rfl⟩ := Int.eq_ofNat_of_zero_le hi.2.1
    simp only [Int.toNat_natCast]
    by_cases hl : (vs.getD s' Vl.zero).len = 1
    · rw [if_neg (fun c => c hl)]
      refine (specGrad_run w lo g1 g2 g3 n1 c1 n2 c2 n3 c3 s' x' ins vs outs f e1 e3 hlt h (by omega) (by omega) hl).mono fun e w' q => ?_
      cases hb : limB (grM vs s' x').1
      · rw [if_neg (by simp)]
        obtain ⟨b1, d1, b3, d3, a2, cap, rfl, hg⟩ := q.2.1 hb
        subst e1 e3
        exact ⟨⟨b1, d1, a2, cap, b3, d3, rfl, hg⟩, q.2.2⟩
      · rw [if_pos rfl, q.1 hb]
        exact gs1_bad 5 q.2.2
    · rw [if_pos hl]
      exact (specGrad_shape w _ _ _ n1 c1 n2 c2 n3 c3 s' x' ins vs outs hgs h (by omega) (by omega) hl).mono fun _ _ q => by rw [q.1]; exact gs1_bad 4 q.2
  · rw [if_pos hi]
    exact (specGrad_idx w _ _ _ n1 c1 n2 c2 n3 c3 s x ins vs outs hgs h hi).mono fun _ _ q => by rw [q.1]; exact gs1_bad 1 q.2

theorem implG (w : World) (lo g1 g2 g3 n1 c1 n2 c2 n3 c3 : Nat) (s x : Int) (ins : List Int) (vs : List Vl) (outs : List Int) (f : GO w lo g1 g2 g3 n2 ins vs outs) (e1 : ins.length = n1) (e3 : outs.length = n3) (hlt : ∀ v ∈ vs, v.k < 18446744073709551616) :
    Calls Try.prog 10 #[gagg (some ⟨g1, 0, none⟩) n1 c1 (some ⟨g2, 0, none⟩) n2 c2 (some ⟨g3, 0, none⟩) n3 c3, .int .i64 s, .int .i64 x] w fun e w' => GS2 w (gres ins vs outs s x) e w' := by
  have hgs := f.gs hlt
  rw [e1, e3] at hgs
  have e2 : vs.length = n2 := f.v.len
  unfold gres
  cases h : okG ins vs outs
  · rw [if_pos rfl]
    exact (implGrad_inv w _ _ _ n1 c1 n2 c2 n3 c3 s x ins vs outs hgs h).mono fun _ _ q => by rw [q.1]; exact gs2_bad 1 q.2
  rw [if_neg (by simp), e2]
  have hvv : (List.range n2).all (okV ins vs) = true := by
    have hok := h
    unfold okG at hok
    simp only [Bool.and_eq_true, decide_eq_true_eq, e2] at hok
    exact hok.2.2.1
  by_cases hi : (0 ≤ s ∧ s < n2) ∧ (0 ≤ x ∧ x < n2)
  · rw [if_neg (fun c => c hi)]
    obtain ⟨s', rfl⟩ := Int.eq_ofNat_of_zero_le hi.1.1
    obtain ⟨x', rfl⟩ := Int.eq_ofNat_of_zero_le hi.2.1
    simp only [Int.toNat_natCast]
    by_cases hl : (vs.getD s' Vl.zero).len = 1
    · rw [if_neg (fun c => c hl)]
      refine (implGrad_run w lo g1 g2 g3 n1 c1 n2 c2 n3 c3 s' x' ins vs outs f e1 e3 hlt h (by omega) (by omega) hl).mono fun e w' q => ?_
      cases hb : limB (grM vs s' x').1
      · rw [if_neg (by simp)]
        obtain ⟨G1, d1, G3, d3, gv, cap, rfl, o1, o3, o2, n13, nv1, nv3⟩ := q.2.1 hb
        subst e1 e3
        refine ⟨⟨_, d1, _, cap, _, d3, rfl, (fun u hu => (grM_ok (gvs_of (ins := ins) (by rw [e2]; exact hvv) hlt) (by omega) (by omega) u hu).2.2), fun H hH => ?_⟩, q.2.2⟩
        have key : ∀ {G d : Nat} {xs : List Int}, OI w' w.heap.size G xs.length d xs → IZ w' G (some ⟨G, 0, none⟩) xs.length xs ∧ w.heap.size ≤ G ∧ G < w'.heap.size := fun {G d xs} ho => by
          have hb := own_blkV ho (k := G) rfl
          refine ⟨?_, hb.1, hb.2⟩
          rcases own_io ho rfl with h0 | ⟨g, e, _, hio⟩
          · exact .inl h0
          · cases e; exact .inr ⟨rfl, hio⟩
        obtain ⟨i1, i2, i3⟩ := key o1
        obtain ⟨p1, p2, p3⟩ := key o3
        have hv := own_blkV o2 (k := gv) rfl
        have v1 : VZ w' gv (some ⟨gv, 0, none⟩) (grM vs s' x').1.length (grM vs s' x').1 := by
          rcases Nat.eq_zero_or_pos (grM vs s' x').1.length with h0 | h0
          · exact .inl h0
          · obtain ⟨g, c, e, _, _, _, hA⟩ := row_at o2 h0 rfl
            cases e
            exact .inr ⟨rfl, hA⟩
        exact ⟨G1, gv, G3, ⟨i1, v1, p1, fun c => nv1 c.symm, n13, nv3⟩, ⟨i2, hv.1, p2⟩, ⟨by omega, by omega, by omega⟩⟩
      · rw [if_pos rfl, q.1 hb]
        exact gs2_bad 5 q.2.2
    · rw [if_pos hl]
      exact (implGrad_shape w _ _ _ n1 c1 n2 c2 n3 c3 s' x' ins vs outs hgs h (by omega) (by omega) hl).mono fun _ _ q => by rw [q.1]; exact gs2_bad 4 q.2
  · rw [if_pos hi]
    refine (implGrad_idx w _ _ _ n1 c1 n2 c2 n3 c3 s x ins vs outs hgs h ?_).mono fun _ _ q => by rw [q.1]; exact gs2_bad 1 q.2
    cases hq : ([s, x].all (idxB · n2))
    · rfl
    · exfalso
      apply hi
      simp [idxB] at hq
      omega
end Go.Proofs.Ytdkjdlimcnddkaa
