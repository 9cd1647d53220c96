import Derived.Test.YtdpbpcnldpkljaaGreatP22
import Derived.Test.YtdpbpcnldpkljaaGreatP30
namespace Go.Proofs.Z
open Tryz
set_option maxRecDepth 1000000
set_option maxHeartbeats 0
open Go.RowKit Flt
attribute [local go_sem] eD eB eA
variable {b1 b3 a2:Option Addr} {m1 e1 m3 e3 base cap vk:Nat} {vs:List Vl} {o ln va vb vc N:Int} {R R':Option Nat} {c0 c1 c2 c3 c5 c6 c7 c8 c9 c10 c13 c14 c15 c16 c17 c18 c19:Value}
theorem GZ {w W:World}(HM:Hid (MS w W b1 m1 e1 b3 m3 e3 vs ⟨o,ln,va,vb,vc,vk⟩ base R R' a2 cap))(hbd:vs.length<=900000)(hN:(vs.length:Int)-1=N):PfC 13 W (MpR w b1 m1 e1 b3 m3 e3 vs ⟨o,ln,va,vb,vc,vk⟩ base R (eI 5 ln N vb 0)) c0 c1 c2 c3 (.pointer (some ⟨w.heap.size,0,none⟩)) c5 c6 c7 c8 c9 c10 (.pointer (some ⟨w.heap.size+1+1,0,none⟩)) (.int .i64 ln) c13 c14 c15 c16 c17 c18 c19 c9 c10:=by
 unfold PfC
 exact xbe
theorem G4 {w W:World}(HM:Hid (MS w W b1 m1 e1 b3 m3 e3 vs ⟨o,ln,va,vb,vc,vk⟩ base R R' a2 cap))(hbd:vs.length<=900000)(hN:(vs.length:Int)-1=N):PfC 14 W (MpR w b1 m1 e1 b3 m3 e3 vs ⟨o,ln,va,vb,vc,vk⟩ base R (eI 6 ln N 0 0)) c0 c1 c2 c3 (.pointer (some ⟨w.heap.size,0,none⟩)) c5 c6 c7 c8 c9 c10 (.pointer (some ⟨w.heap.size+1+1,0,none⟩)) (.int .i64 ln) c13 c14 c15 c16 c17 c18 c19 c9 c10:=by
 unfold PfC
 intros
 rename_i HK
 have HC:Hid (∀W1,Kept 0 0 W W1->_):=λW1 k=>MS.call HM.out k (eI 6 ln N 0 0) xaa
 have s0:=HM.out.g.c0
 have s1:=HM.out.g.c1
 have s2:=HM.out.g.c2
 have HLast:Hid (∀W:World,_):=λW=>ir W b1 a2 b3 m1 e1 vs.length cap m3 e3 xaa
 rw[hN] at HLast
 clear hN
 conv=>arg 2;whnf
 go_region_with (first
  |(go_at_call 24;refine yai (HC.out _ (((eC W).trans kl).trans k1)) ?_;rintro e w2 ⟨g',cap',rfl,⟨u0,r0⟩,⟨u1,r1⟩,⟨u2,r2⟩,rf,_,hM2⟩;have rf0:=rf 0;have rf1:=rf 1;have rf2:=rf 2;clear rf)
  |(go_at_call 27;refine yai (HLast.out _) ?_;rintro e wl ⟨rfl,kl⟩;have l0:=(MS.keep HM.out ((eC W).trans kl)).g.c0;have l1:=(MS.keep HM.out ((eC W).trans kl)).g.c1;have l2:=(MS.keep HM.out ((eC W).trans kl)).g.c2)
  |(go_at_call 26;refine yai (gj _ _ _ _ _ _) ?_;rintro e w1 ⟨rfl,k1⟩;have p0:=(MS.keep HM.out (((eC W).trans kl).trans k1)).g.c0;have p1:=(MS.keep HM.out (((eC W).trans kl).trans k1)).g.c1;have p2:=(MS.keep HM.out (((eC W).trans kl).trans k1)).g.c2))
 all_goals exact HK _ ⟨_,_,_,⟨rfl,by simp⟩,by simp,hM2⟩
variable {w:World} {b1 b3:Option Addr} {m1 e1 cap m3 e3 base g2 i j kk:Nat} {vs:List Vl} {ln va vb vc la d F:Int} {vk:Nat}
theorem Ei (H:MvH w cap base g2 i vs ⟨5,ln,va,vb,vc,vk⟩):PtC w b1 b3 m1 e1 cap m3 e3 base g2 i vs 1 d ([eI 4 ln d (i:Int) 0,eI 5 ln ((vs.length:Nat):Int) vb 0,eI 6 ln (((vs.length:Nat):Int)+1) 0 0],(((vs.length:Nat):Int)+2)) true:=by
 obtain⟨⟨v0,v1,v2,v3,v4,v5⟩,j0,j1,hg2,wB,hB,hn,HM,HO⟩:=H.op b1 b3 m1 e1 m3 e3
 clear H
 unfold PtC
 go_enter func150,ntmps150
 go_wp2_with fail
 rw[hB.out]
 clear v0 v1 v2 v3 v4 v5 hB
 refine fg (FI HM xaa ?_)
 clear HM
 unfold PfK
 intros
 rename_i wc hR
 obtain⟨vs1,g',cap',HV1,hL1,HM⟩:=hR
 go_wp2_with fail
 refine fg (GZ HM xaa (show(vs1.length:Int)-1=((vs.length:Nat):Int) by have:=HV1.out.2;omega) ?_)
 clear HM
 unfold PfK
 intros
 rename_i wc hR
 obtain⟨vs2,g',cap',HV2,hL2,HM⟩:=hR
 go_wp2_with fail
 refine fg (G4 HM xaa (show(vs2.length:Int)-1=(((vs.length:Nat):Int)+1) by have:=HV1.out.2;have:=HV2.out.2;omega) ?_)
 exact no_implicit_lambda% xbn
theorem G5 (H:MvH w cap base g2 i vs ⟨12,ln,va,vb,vc,vk⟩):PtC w b1 b3 m1 e1 cap m3 e3 base g2 i vs 0 d ([eI 11 1 d 0 vc],((vs.length:Nat):Int)) true:=by
 obtain⟨⟨v0,v1,v2,v3,v4,v5⟩,j0,j1,hg2,wB,hB,hn,HM,HO⟩:=H.op b1 b3 m1 e1 m3 e3
 clear H
 unfold PtC
 go_enter func150,ntmps150
 go_wp2_with fail
 rw[hB.out]
 clear v0 v1 v2 v3 v4 v5 hB
 refine fg (Gf HM xaa ?_)
 exact no_implicit_lambda% xam
