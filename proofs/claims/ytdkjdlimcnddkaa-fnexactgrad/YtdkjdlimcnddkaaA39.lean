import Derived.Test.YtdkjdlimcnddkaaA30
namespace Go.Proofs.Ytdkjdlimcnddkaa
open Go.RowKit Flt
attribute [local go_sem] alloc_drewN setCell_drewN run_store_float

set_option maxRecDepth 1000000 in
set_option maxHeartbeats 8000000 in
theorem pput30 {w W : World} {b1 b3 : Option Addr} {m1 e1 m3 e3 base cap : Nat} {vs : List Vl} {o ln vb vc : Int} {vk : Nat} {R R' : Option Nat} {g2 j : Nat} {la : Int} {d : Int} {K : Act → World → Prop} {c0 c1 c2 c5 c6 c7 c8 c9 c10 c12 c13 c14 c15 c16 c17 c18 c19 c20 c21 c22 c23 c24 c25 c26 c27 c28 c29 c30 c31 c32 c33 c34 c35 c36 c37 c38 c39 c40 c41 c42 c43 c44 c45 c46 c47 c48 c49 c50 c51 c52 c53 c54 c55 c56 c57 c58 c59 c60 c61 c62 c63 c64 c65 c66 c67 c68 c69 c70 c71 c72 c73 c74 c75 c76 c77 c78 c79 c80 c81 c82 c83 c84 c85 c86 c87 c88 c89 c90 c91 c92 c93 c94 c95 c96 c97 c98 c99 c100 c101 c102 c103 c104 c105 c106 c107 c108 c109 c110 c111 c112 c113 c114 c115 c116 c117 c118 c119 c120 c121 c122 c123 c124 c125 c126 c127 c128 c129 c130 c131 c132 c133 c134 c135 c136 c137 c138 c139 c140 c141 c142 c143 c144 c145 c146 c147 c148 c149 c150 c151 c152 c153 c154 c155 c156 c157 c158 c159 c160 c161 c162 c163 c164 c165 c166 c167 c168 c169 c170 c171 c172 c173 c174 c175 c176 c177 c178 c179 c180 c181 c182 c183 c184 c185 c186 c187 c188 c189 c190 c191 c192 c193 c194 c195 c196 c197 c198 c199 c200 c201 c202 c203 c204 : Value} (HM : Hid (MS w W b1 m1 e1 b3 m3 e3 vs ⟨o, ln, (j : Int), vb, vc, vk⟩ base R R' (some ⟨g2, 0, none⟩) cap)) (hbd : vs.length ≤ 900000) (hj : j < vs.length) (hla : (vs.getD j Vl.zero).len = la)
    (hk : ∀ (W' : World) (g' cap' : Nat) (u153 u154 u155 u156 u157 u158 u159 u160 u161 u162 u163 : Value), Hid (MS w W' b1 m1 e1 b3 m3 e3 (vs ++ [(vput 10 la d 0 0)]) ⟨o, ln, (j : Int), vb, vc, vk⟩ base R (some g') (some ⟨g', 0, none⟩) cap') → K ⟨#[c0, c1, c2, .int .i64 d, .pointer (some ⟨w.heap.size, 0, none⟩), c5, c6, c7, c8, c9, c10, .pointer (some ⟨w.heap.size + 1 + 1, 0, none⟩), c12, c13, c14, c15, c16, c17, c18, c19, c20, c21, c22, c23, c24, c25, c26, c27, c28, c29, c30, c31, c32, c33, c34, c35, c36, c37, c38, c39, c40, c41, c42, c43, c44, c45, c46, c47, c48, c49, c50, c51, c52, c53, c54, c55, c56, c57, c58, c59, c60, c61, c62, c63, c64, c65, c66, c67, c68, c69, c70, c71, c72, c73, c74, c75, c76, c77, c78, c79, c80, c81, c82, c83, c84, c85, c86, c87, c88, c89, c90, c91, c92, c93, c94, c95, c96, c97, c98, c99, c100, c101, c102, c103, c104, c105, c106, c107, c108, c109, c110, c111, c112, c113, c114, c115, c116, c117, c118, c119, c120, c121, c122, c123, c124, c125, c126, c127, c128, c129, c130, c131, c132, c133, c134, c135, c136, c137, c138, c139, c140, c141, c142, c143, c144, c145, c146, c147, c148, c149, c150, c151, c152, u153, u154, u155, u156, u157, u158, u159, u160, u161, u162, u163, c164, c165, c166, c167, c168, c169, c170, c171, c172, c173, c174, c175, c176, c177, c178, c179, c180, c181, c182, c183, c184, c185, c186, c187, c188, c189, c190, c191, c192, c193, c194, c195, c196, c197, c198, c199, c200, c201, c202, c203, c204], []⟩ W') :
    Code.wp Try.prog (preg 30) (Exit.then K fun _ _ _ => False) ⟨#[c0, c1, c2, .int .i64 d, .pointer (some ⟨w.heap.size, 0, none⟩), c5, c6, c7, c8, c9, c10, .pointer (some ⟨w.heap.size + 1 + 1, 0, none⟩), c12, c13, c14, c15, c16, c17, c18, c19, c20, c21, c22, c23, c24, c25, c26, c27, c28, c29, c30, c31, c32, c33, c34, c35, c36, c37, c38, c39, c40, c41, c42, c43, c44, c45, c46, c47, c48, c49, c50, c51, c52, c53, c54, c55, c56, c57, c58, c59, c60, c61, c62, c63, c64, c65, c66, c67, c68, c69, c70, c71, c72, c73, c74, c75, c76, c77, c78, c79, c80, c81, c82, c83, c84, c85, c86, c87, c88, c89, c90, c91, c92, c93, c94, c95, c96, c97, c98, c99, c100, c101, c102, c103, c104, c105, c106, c107, c108, c109, c110, c111, c112, c113, c114, c115, c116, c117, c118, c119, c120, c121, c122, c123, c124, c125, c126, c127, c128, c129, c130, c131, c132, c133, c134, c135, c136, c137, c138, c139, c140, c141, c142, c143, c144, c145, c146, c147, c148, c149, c150, c151, c152, c153, c154, c155, c156, c157, c158, c159, c160, c161, c162, c163, c164, c165, c166, c167, c168, c169, c170, c171, c172, c173, c174, c175, c176, c177, c178, c179, c180, c181, c182, c183, c184, c185, c186, c187, c188, c189, c190, c191, c192, c193, c194, c195, c196, c197, c198, c199, c200, c201, c202, c203, c204], []⟩ W := by
  have HK : Hid _ := hk
  clear hk
  have s0 := HM.out.g.c0
  have s1 := HM.out.g.c1
  have s2 := HM.out.g.c2
  have v2 := HM.out.v.c2
  have hL1 := HM.out.len1 hj hla
  have j0 : (0 : Int) ≤ (j : Int) := by omega
  have j1 : (j : Int) < (vs.length : Int) := by omega
  clear hla
  conv => arg 2; whnf
  go_region_with (first
    | (go_at_call 81; refine Calls.mono (MS.call HM.out ((kept_drew W).trans k1) (vput 10 la d 0 0) (by omega)) ?_; rintro e w2 ⟨g', cap', rfl, ⟨u0, r0⟩, ⟨u1, r1⟩, ⟨u2, r2⟩, rf, _, hM2⟩; have rf0 := rf 0; have rf1 := rf 1; have rf2 := rf 2; clear rf)
    | (go_at_call 87; refine Calls.mono (l2op _ _ _ _ _ _) ?_; rintro e w1 ⟨rfl, k1⟩; have p0 := (MS.keep HM.out ((kept_drew W).trans k1)).g.c0; have p1 := (MS.keep HM.out ((kept_drew W).trans k1)).g.c1; have p2 := (MS.keep HM.out ((kept_drew W).trans k1)).g.c2))
  all_goals exact HK.out _ _ _ _ _ _ _ _ _ _ _ _ _ _ hM2

end Go.Proofs.Ytdkjdlimcnddkaa
