import Derived.Test.YtdkjdlimcnddkaaA31
import Derived.Test.YtdkjdlimcnddkaaA16
namespace Go.Proofs.Ytdkjdlimcnddkaa
open Go.RowKit Flt
attribute [local go_sem] alloc_drewN setCell_drewN run_store_float
/-- Region n of l2grad. -/
noncomputable abbrev greg (n : Nat) : Code := (Try.f32.body.bind (findR n)).getD .skip
set_option maxRecDepth 1000000 in
set_option maxHeartbeats 16000000 in
theorem gput27 {w W : World} {Mb A n1 e1 n3 e3 base cap gv S1 o : Nat} {b1 b3 : Option Addr} {ins outs mv : List Int} {act : List Bool} {us : List Vl} {R : Option Nat} {p q ol : Int} {K : Act → World → Prop} {c0 c1 c2 c4 c5 c6 c7 c8 c9 c11 c12 c13 c15 c17 c18 c19 c20 c21 c22 c23 c24 c25 c26 c27 c28 c29 c30 c31 c32 c33 c34 c35 c36 c37 c38 c39 c40 c41 c42 c43 c44 c45 c46 c47 c48 c49 c50 c51 c52 c53 c54 c55 c56 c57 c58 c59 c60 c61 c62 c63 c64 c65 c66 c67 c68 c69 c70 c71 c72 c73 c74 c75 c76 c77 c78 c79 c80 c81 c82 c83 c84 c85 c86 c87 c88 c89 c90 c91 c92 c93 c94 c95 c96 c97 c98 c99 c100 c101 c102 c103 c104 c105 c106 c107 c108 c109 c110 c111 c112 c113 c114 c115 c116 c117 c118 c119 c120 c121 c122 c123 c124 c125 c126 c127 c128 c129 c130 c131 c132 c133 c134 c135 c136 c137 c138 c139 c140 c141 c142 c143 c144 c145 c146 c147 c148 c149 c150 c151 c152 c153 c154 c155 c156 c157 c158 c159 c160 c161 c162 c163 c164 c165 c166 c167 c168 : Value} (HM : Hid (LG w W Mb A b1 n1 e1 b3 n3 e3 ins outs us mv act base R (some ⟨gv, 0, none⟩) cap)) (hbd : us.length ≤ 900000) (ho : o < us.length) (hS : o < S1) (hm : mv.length = S1) (hol : (us.getD o Vl.zero).len = ol) (hq : mv.getD o 0 = q)
    (hk : ∀ (W' : World) (g' cap' : Nat) (u133 u134 u135 u136 u137 u138 u139 u140 u141 u142 u143 u144 u145 u146 : Value), Hid (LG w W' Mb A b1 n1 e1 b3 n3 e3 ins outs (us ++ [vput 2 ol q p 0]) mv act base (some g') (some ⟨g', 0, none⟩) cap') → K ⟨#[c0, c1, c2, .pointer (some ⟨w.heap.size, 0, none⟩), c4, c5, c6, c7, c8, c9, .slice (some ⟨Mb, 0, none⟩) S1 S1, c11, c12, c13, .int .i64 (o : Int), c15, .int .i64 p, c17, c18, c19, c20, c21, c22, c23, c24, c25, c26, c27, c28, c29, c30, c31, c32, c33, c34, c35, c36, c37, c38, c39, c40, c41, c42, c43, c44, c45, c46, c47, c48, c49, c50, c51, c52, c53, c54, c55, c56, c57, c58, c59, c60, c61, c62, c63, c64, c65, c66, c67, c68, c69, c70, c71, c72, c73, c74, c75, c76, c77, c78, c79, c80, c81, c82, c83, c84, c85, c86, c87, c88, c89, c90, c91, c92, c93, c94, c95, c96, c97, c98, c99, c100, c101, c102, c103, c104, c105, c106, c107, c108, c109, c110, c111, c112, c113, c114, c115, c116, c117, c118, c119, c120, c121, c122, c123, c124, c125, c126, c127, c128, c129, c130, c131, c132, u133, u134, u135, u136, u137, u138, u139, u140, u141, u142, u143, u144, u145, u146, c147, c148, c149, c150, c151, c152, c153, c154, c155, c156, c157, c158, c159, c160, c161, c162, c163, c164, c165, c166, c167, c168], []⟩ W') :
    Code.wp Try.prog (greg 27) (Exit.then K fun _ _ _ => False) ⟨#[c0, c1, c2, .pointer (some ⟨w.heap.size, 0, none⟩), c4, c5, c6, c7, c8, c9, .slice (some ⟨Mb, 0, none⟩) S1 S1, c11, c12, c13, .int .i64 (o : Int), c15, .int .i64 p, c17, c18, c19, c20, c21, c22, c23, c24, c25, c26, c27, c28, c29, c30, c31, c32, c33, c34, c35, c36, c37, c38, c39, c40, c41, c42, c43, c44, c45, c46, c47, c48, c49, c50, c51, c52, c53, c54, c55, c56, c57, c58, c59, c60, c61, c62, c63, c64, c65, c66, c67, c68, c69, c70, c71, c72, c73, c74, c75, c76, c77, c78, c79, c80, c81, c82, c83, c84, c85, c86, c87, c88, c89, c90, c91, c92, c93, c94, c95, c96, c97, c98, c99, c100, c101, c102, c103, c104, c105, c106, c107, c108, c109, c110, c111, c112, c113, c114, c115, c116, c117, c118, c119, c120, c121, c122, c123, c124, c125, c126, c127, c128, c129, c130, c131, c132, c133, c134, c135, c136, c137, c138, c139, c140, c141, c142, c143, c144, c145, c146, c147, c148, c149, c150, c151, c152, c153, c154, c155, c156, c157, c158, c159, c160, c161, c162, c163, c164, c165, c166, c167, c168], []⟩ W := by
  have HK : Hid _ := hk
  clear hk
  have s0 := HM.out.l.g.c0
  have s1 := HM.out.l.g.c1
  have s2 := HM.out.l.g.c2
  obtain ⟨gx, ex, _, _, hA⟩ := HM.out.l.read (by omega)
  cases ex
  have hL1 := (hA o ho).c1
  rw [hol] at hL1
  have hS1 := IR.cell HM.out.m o (by omega)
  rw [hq] at hS1
  have o0 : (0 : Int) ≤ (o : Int) := by omega
  have o1 : (o : Int) < (us.length : Int) := by omega
  have o2 : (o : Int) < (S1 : Int) := by omega
  clear hol hq hA hm ho hS
  conv => arg 2; whnf
  go_region_with (first
    | (go_at_call 81; refine Calls.mono (LK.call HM.out.l ((kept_drew W).trans k1) (vput 2 ol q p 0) (by omega)) ?_; rintro e w2 ⟨g', cap', rfl, ⟨u0, r0⟩, ⟨u1, r1⟩, ⟨u2, r2⟩, rf, hM2⟩; have rf0 := rf 0; have rf1 := rf 1; have rf2 := rf 2; have HM2 : Hid _ := HM.out.stq hM2.out.1 hM2.out.2; clear rf hM2)
    | (go_at_call 87; refine Calls.mono (l2op _ _ _ _ _ _) ?_; rintro e w1 ⟨rfl, k1⟩; have p0 := (LG.keep HM.out ((kept_drew W).trans k1)).l.g.c0; have p1 := (LG.keep HM.out ((kept_drew W).trans k1)).l.g.c1; have p2 := (LG.keep HM.out ((kept_drew W).trans k1)).l.g.c2))
  all_goals exact HK.out _ _ _ _ _ _ _ _ _ _ _ _ _ _ _ _ _ HM2
end Go.Proofs.Ytdkjdlimcnddkaa
