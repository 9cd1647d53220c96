import Derived.Test.YtdpbpcnldpkljaaGreatP21
namespace Go.Proofs.Z
open Tryz
set_option maxRecDepth 1000000
set_option maxHeartbeats 0
section
open Go.RowKit Flt
attribute [local go_sem] eD eB eA
variable {w:World} {b1 b3 a2:Option Addr} {m1 e1 m3 e3 base cap vk:Nat} {vs:List Vl} {o ln va vb vc d i:Int} {R R':Option Nat} {c0 c1 c2 c5 c6 c7 c8 c9 c10 c13 c12 c14 c15 c16 c17 c18 c19:Value}
theorem EM {W:World}(HM:Hid (MS w W b1 m1 e1 b3 m3 e3 vs ⟨o,ln,va,vb,vc,vk⟩ base R R' a2 cap))(hbd:vs.length<=900000):PfC 6 W (MpR w b1 m1 e1 b3 m3 e3 vs ⟨o,ln,va,vb,vc,vk⟩ base R (eI 6 ln d 0 0)) c0 c1 c2 (.int .i64 d) (.pointer (some ⟨w.heap.size,0,none⟩)) c5 c6 c7 c8 c9 c10 (.pointer (some ⟨w.heap.size+1+1,0,none⟩)) (.int .i64 ln) c13 c14 c15 c16 c17 c18 c19 c9 c10:=by
 unfold PfC
 intros
 rename_i HK
 have HC:Hid (∀W1,Kept 0 0 W W1->_):=λW1 k=>MS.call HM.out k (eI 6 ln d 0 0) xaa
 exact xae
theorem FG {W:World}(HM:Hid (MS w W b1 m1 e1 b3 m3 e3 vs ⟨o,ln,va,vb,vc,vk⟩ base R R' a2 cap))(hbd:vs.length<=900000):PfC 10 W (MpR w b1 m1 e1 b3 m3 e3 vs ⟨o,ln,va,vb,vc,vk⟩ base R (eI 5 ln d vb 0)) c0 c1 c2 (.int .i64 d) (.pointer (some ⟨w.heap.size,0,none⟩)) c5 c6 c7 c8 c9 c10 (.pointer (some ⟨w.heap.size+1+1,0,none⟩)) (.int .i64 ln) c13 c14 c15 c16 c17 c18 c19 c9 c10:=by
 unfold PfC
 intros
 rename_i HK
 have HC:Hid (∀W1,Kept 0 0 W W1->_):=λW1 k=>MS.call HM.out k (eI 5 ln d vb 0) xaa
 have s0:=HM.out.g.c0
 have s1:=HM.out.g.c1
 have s2:=HM.out.g.c2
 exact xav
theorem FH {W:World}(HM:Hid (MS w W b1 m1 e1 b3 m3 e3 vs ⟨o,ln,va,vb,vc,vk⟩ base R R' a2 cap))(hbd:vs.length<=900000):PfC 32 W (MpR w b1 m1 e1 b3 m3 e3 vs ⟨o,ln,va,vb,vc,vk⟩ base R (eI 9 1 d 0 0)) c0 c1 c2 (.int .i64 d) (.pointer (some ⟨w.heap.size,0,none⟩)) c5 c6 c7 c8 c9 c10 (.pointer (some ⟨w.heap.size+1+1,0,none⟩)) c12 c13 c14 c15 c16 c17 c18 c19 c9 c10:=by
 unfold PfC
 intros
 rename_i HK
 have HC:Hid (∀W1,Kept 0 0 W W1->_):=λW1 k=>MS.call HM.out k (eI 9 1 d 0 0) xaa
 exact xae
theorem FI {W:World}(HM:Hid (MS w W b1 m1 e1 b3 m3 e3 vs ⟨o,ln,va,vb,vc,vk⟩ base R R' a2 cap))(hbd:vs.length<=900000):PfC 12 W (MpR w b1 m1 e1 b3 m3 e3 vs ⟨o,ln,va,vb,vc,vk⟩ base R (eI 4 ln d i 0)) c0 (.int .i64 i) c2 (.int .i64 d) (.pointer (some ⟨w.heap.size,0,none⟩)) c5 c6 c7 c8 c9 c10 (.pointer (some ⟨w.heap.size+1+1,0,none⟩)) (.int .i64 ln) c13 c14 c15 c16 c17 c18 c19 c9 c10:=by
 exact no_implicit_lambda% xcc
theorem FJ {W:World}(HM:Hid (MS w W b1 m1 e1 b3 m3 e3 vs ⟨o,ln,va,vb,vc,vk⟩ base R R' a2 cap))(hbd:vs.length<=900000):PfC 37 W (MpR w b1 m1 e1 b3 m3 e3 vs ⟨o,ln,va,vb,vc,vk⟩ base R (eI 4 ln d i 0)) c0 (.int .i64 i) c2 (.int .i64 d) (.pointer (some ⟨w.heap.size,0,none⟩)) c5 c6 c7 c8 c9 c10 (.pointer (some ⟨w.heap.size+1+1,0,none⟩)) (.int .i64 ln) c13 c14 c15 c16 c17 c18 c19 c9 c10:=by
 exact no_implicit_lambda% xcc
theorem jk {W:World}{N:Int}{c3 c11:Value}(HM:Hid (MS w W b1 m1 e1 b3 m3 e3 vs ⟨o,ln,va,vb,vc,vk⟩ base R R' a2 cap))(hbd:vs.length<=900000)(hN:(vs.length:Int)-1=N):PfC 38 W (λW'=>W'.cell? ⟨w.heap.size+1,0,none⟩=some (.slice b1 m1 e1)/\W'.cell? ⟨w.heap.size+1,1,none⟩=some (.slice a2 vs.length cap)/\W'.cell? ⟨w.heap.size+1,2,none⟩=some (.slice b3 m3 e3)/\Hid (∃w3,Kept 0 0 W w3/\W'=fe w3 (w.heap.size+1) (.slice b1 m1 e1) (.slice a2 vs.length cap) (.slice b3 m3 e3))) c0 c1 c2 c3 (.pointer (some ⟨w.heap.size,0,none⟩)) c5 c6 c7 (.pointer (some ⟨w.heap.size+1,0,none⟩)) c9 c10 c11 c12 c13 c14 c15 c16 c17 c18 c19 (.int .i64 N) (.bool true):=by
 unfold PfC
 exact xak
variable {w:World} {b1 b3:Option Addr} {m1 e1 cap m3 e3 base g2 i j kk:Nat} {vs:List Vl} {ln va vb vc la d F:Int} {vk:Nat}
theorem FK (H:MvH w cap base g2 i vs ⟨2,ln,va,vb,vc,vk⟩):PtC w b1 b3 m1 e1 cap m3 e3 base g2 i vs (kk:Int) d ([],d) true:=by
 exact xcq
theorem Cm (H:MvH w cap base g2 i vs ⟨3,ln,va,vb,vc,vk⟩):PtC w b1 b3 m1 e1 cap m3 e3 base g2 i vs 0 d ([],d) true:=by
 exact xcq
theorem Cn (H:MvH w cap base g2 i vs ⟨3,ln,va,vb,vc,vk⟩):PtC w b1 b3 m1 e1 cap m3 e3 base g2 i vs 1 d ([eI 6 ln d 0 0],((vs.length:Nat):Int)) true:=by
 obtain⟨⟨v0,v1,v2,v3,v4,v5⟩,j0,j1,hg2,wB,hB,hn,HM,HO⟩:=H.op b1 b3 m1 e1 m3 e3
 clear H
 unfold PtC
 go_enter func150,ntmps150
 go_wp2_with fail
 rw[hB.out]
 clear v0 v1 v2 v3 v4 v5 hB
 refine fg (EM HM xaa ?_)
 exact no_implicit_lambda% xam
theorem FL (H:MvH w cap base g2 i vs ⟨6,ln,va,vb,vc,vk⟩):PtC w b1 b3 m1 e1 cap m3 e3 base g2 i vs 0 d ([eI 6 ln d 0 0],((vs.length:Nat):Int)) true:=by
 obtain⟨⟨v0,v1,v2,v3,v4,v5⟩,j0,j1,hg2,wB,hB,hn,HM,HO⟩:=H.op b1 b3 m1 e1 m3 e3
 clear H
 unfold PtC
 go_enter func150,ntmps150
 go_wp2_with fail
 rw[hB.out]
 clear v0 v1 v2 v3 v4 v5 hB
 refine fg (EM HM xaa ?_)
 exact no_implicit_lambda% xam
theorem Co (H:MvH w cap base g2 i vs ⟨8,ln,va,vb,vc,vk⟩):PtC w b1 b3 m1 e1 cap m3 e3 base g2 i vs 0 d ([],0) false:=by
 exact xcq
end
section
open Go.RowKit Flt
def ptM (i:Int)(v:Vl)(la:Int)(k:Nat)(d:Int)(N:Nat):List Vl×Int:=if me v k=true then kS i v la k d N else ([],0)
end
section
open Go.RowKit Flt
attribute [local go_sem] eD eB eA
theorem Hy {w W:World}{b1 b3:Option Addr}{m1 e1 m3 e3 base cap:Nat}{vs:List Vl}{o ln va vb vc:Int}{vk:Nat}{R R':Option Nat}{a2:Option Addr}{d F:Int}{kk:Nat}{c0 c1 c5 c6 c7 c8 c9 c10 c13 c14 c15 c16 c17 c18 c19:Value}(HM:Hid (MS w W b1 m1 e1 b3 m3 e3 vs ⟨o,ln,va,vb,vc,vk⟩ base R R' a2 cap))(hbd:vs.length<=900000)(hkk:kk<2)(hF:fld ⟨o,ln,va,vb,vc,vk⟩ (1-kk)=F):PfC 8 W (MpR w b1 m1 e1 b3 m3 e3 vs ⟨o,ln,va,vb,vc,vk⟩ base R (eI 4 ln d F 0)) c0 c1 (.int .i64 (kk:Int)) (.int .i64 d) (.pointer (some ⟨w.heap.size,0,none⟩)) c5 c6 c7 c8 c9 c10 (.pointer (some ⟨w.heap.size+1+1,0,none⟩)) (.int .i64 ln) c13 c14 c15 c16 c17 c18 c19 c9 c10:=by
 unfold PfC
 intros
 rename_i HK
 have HC:Hid (∀W1,Kept 0 0 W W1->_):=λW1 k=>MS.call HM.out k (eI 4 ln d F 0) xaa
 have s0:=HM.out.g.c0
 have s1:=HM.out.g.c1
 have s2:=HM.out.g.c2
 have v0:=HM.out.v.c0
 have v1:=HM.out.v.c1
 have v2:=HM.out.v.c2
 have v3:=HM.out.v.c3
 have v4:=HM.out.v.c4
 have v5:=HM.out.v.c5
 have HFD:Hid (∀W,Calls prog 37 #[(Vl.mk o ln va vb vc vk).agg,.int .i64 ((1-kk:Nat):Int)] W λe w'=>e=.returned (.int .i64 F)/\Kept 0 0 W w'):=λW=>by rw[<-hF];exact kR W _ _ xaa
 have hkc:((1-kk:Nat):Int)=1-(kk:Int):=xaa
 rw[hkc] at HFD
 have hkw:IntKind.i64.wrap (1-(kk:Int))=1-(kk:Int):=by rw[IntKind.wrap_i64];omega
 clear hF hkc
 conv=>arg 2;whnf
 go_region_with (first
  |(go_at_call 24;refine yai (HC.out _ (((eC W).trans kf).trans k1)) ?_;rintro e w2 ⟨g',cap',rfl,⟨u0,r0⟩,⟨u1,r1⟩,⟨u2,r2⟩,rf,_,hM2⟩;have rf0:=rf 0;have rf1:=rf 1;have rf2:=rf 2;clear rf)
  |(go_at_call 37;refine yai (HFD.out _) ?_;rintro e wf ⟨rfl,kf⟩;have l0:=(MS.keep HM.out ((eC W).trans kf)).g.c0;have l1:=(MS.keep HM.out ((eC W).trans kf)).g.c1;have l2:=(MS.keep HM.out ((eC W).trans kf)).g.c2)
  |(go_at_call 26;refine yai (gj _ _ _ _ _ _) ?_;rintro e w1 ⟨rfl,k1⟩;have p0:=(MS.keep HM.out (((eC W).trans kf).trans k1)).g.c0;have p1:=(MS.keep HM.out (((eC W).trans kf).trans k1)).g.c1;have p2:=(MS.keep HM.out (((eC W).trans kf).trans k1)).g.c2))
 all_goals exact HK _ ⟨_,_,_,⟨rfl,by simp⟩,by simp,hM2⟩
variable {w:World} {b1 b3:Option Addr} {m1 e1 cap m3 e3 base g2 i j kk:Nat} {vs:List Vl} {ln va vb vc la d F:Int} {vk:Nat}
theorem FM (H:MvH w cap base g2 i vs ⟨4,ln,va,vb,vc,vk⟩)(hkk:kk<2)(hF:fld ⟨4,ln,va,vb,vc,vk⟩ (1-kk)=F):PtC w b1 b3 m1 e1 cap m3 e3 base g2 i vs (kk:Int) d ([eI 4 ln d F 0],((vs.length:Nat):Int)) true:=by
 obtain⟨⟨v0,v1,v2,v3,v4,v5⟩,j0,j1,hg2,wB,hB,hn,HM,HO⟩:=H.op b1 b3 m1 e1 m3 e3
 clear H
 unfold PtC
 have HF:Hid _:=hF
 clear hF
 go_enter func150,ntmps150
 go_wp2_with fail
 rw[hB.out]
 clear v0 v1 v2 v3 v4 v5 hB
 refine fg (Hy HM xaa hkk HF.out ?_)
 exact no_implicit_lambda% xam
theorem Cp (H:MvH w cap base g2 i vs ⟨5,ln,va,vb,vc,vk⟩):PtC w b1 b3 m1 e1 cap m3 e3 base g2 i vs 0 d ([eI 5 ln d vb 0],((vs.length:Nat):Int)) true:=by
 obtain⟨⟨v0,v1,v2,v3,v4,v5⟩,j0,j1,hg2,wB,hB,hn,HM,HO⟩:=H.op b1 b3 m1 e1 m3 e3
 clear H
 unfold PtC
 go_enter func150,ntmps150
 go_wp2_with fail
 rw[hB.out]
 clear v0 v1 v2 v3 v4 v5 hB
 refine fg (FG HM xaa ?_)
 exact no_implicit_lambda% xam
theorem FN (H:MvH w cap base g2 i vs ⟨13,ln,va,vb,vc,vk⟩):PtC w b1 b3 m1 e1 cap m3 e3 base g2 i vs 0 d ([eI 4 ln d (i:Int) 0],((vs.length:Nat):Int)) true:=by
 obtain⟨⟨v0,v1,v2,v3,v4,v5⟩,j0,j1,hg2,wB,hB,hn,HM,HO⟩:=H.op b1 b3 m1 e1 m3 e3
 clear H
 unfold PtC
 go_enter func150,ntmps150
 go_wp2_with fail
 rw[hB.out]
 clear v0 v1 v2 v3 v4 v5 hB
 refine fg (FJ HM xaa ?_)
 exact no_implicit_lambda% xam
