import Derived.Test.YtdpbpcnldpkljaaGreatP14
namespace Go.Proofs.Z
open Tryz
set_option maxRecDepth 1000000
set_option maxHeartbeats 0
open Go.RowKit Flt
attribute [local go_sem] eD eB eA
variable {w:World} {b1 b3 a2:Option Addr} {m1 e1 m3 e3 base cap vk:Nat} {vs:List Vl} {o ln va vb vc N ta:Int} {R R':Option Nat} {c0 c1 c2 c3 c4 c6 c7 c8 c9 c10 c11 c12 c13 c14 c15 c16 c17 c18 c19:Value}
theorem zm {W:World}(HM:Hid (MS w W b1 m1 e1 b3 m3 e3 vs ⟨o,ln,va,vb,vc,vk⟩ base R R' a2 cap))(hbd:vs.length<=900000):MfC 48 W (MpR w b1 m1 e1 b3 m3 e3 vs ⟨o,ln,va,vb,vc,vk⟩ base R (eI 3 ln va vb 0)) c0 c1 c2 c3 c4 (.pointer (some ⟨w.heap.size,0,none⟩)) c6 c7 c8 c9 c10 c11 (.pointer (some ⟨w.heap.size+1+1,0,none⟩)) (.int .i64 ln) c14 c15 c16 c17 c18 c19 c11:=by
 unfold MfC
 exact xbz
theorem Fy {W:World}{q:Int}(HM:Hid (MS w W b1 m1 e1 b3 m3 e3 vs ⟨o,ln,va,vb,vc,vk⟩ base R R' a2 cap))(hbd:vs.length<=900000):MfC 33 W (MpR w b1 m1 e1 b3 m3 e3 vs ⟨o,ln,va,vb,vc,vk⟩ base R (eI 6 ln q 0 0)) c0 c1 c2 c3 c4 (.pointer (some ⟨w.heap.size,0,none⟩)) c6 c7 c8 c9 c10 c11 (.pointer (some ⟨w.heap.size+1+1,0,none⟩)) (.int .i64 ln) c14 (.int .i64 q) c16 c17 c18 c19 c11:=by
 unfold MfC
 intros
 rename_i HK
 have HC:Hid (∀W1,Kept 0 0 W W1->_):=λW1 k=>MS.call HM.out k (eI 6 ln q 0 0) xaa
 exact xae
theorem zn {W:World}(HM:Hid (MS w W b1 m1 e1 b3 m3 e3 vs ⟨o,ln,va,vb,vc,vk⟩ base R R' a2 cap))(hbd:vs.length<=900000)(hN:(vs.length:Int)-1=N):MfC 31 W (λW'=>W'.cell? ⟨w.heap.size+1,0,none⟩=some (.slice b1 m1 e1)/\W'.cell? ⟨w.heap.size+1,1,none⟩=some (.slice a2 vs.length cap)/\W'.cell? ⟨w.heap.size+1,2,none⟩=some (.slice b3 m3 e3)/\Hid (∃w3,Kept 0 0 W w3/\W'=fe w3 (w.heap.size+1) (.slice b1 m1 e1) (.slice a2 vs.length cap) (.slice b3 m3 e3))) c0 c1 c2 c3 c4 (.pointer (some ⟨w.heap.size,0,none⟩)) c6 c7 c8 c9 (.pointer (some ⟨w.heap.size+1,0,none⟩)) c11 c12 c13 c14 c15 c16 c17 c18 c19 (.int .i64 N):=by
 exact no_implicit_lambda% xal
theorem Fz {W:World}(HM:Hid (MS w W b1 m1 e1 b3 m3 e3 vs ⟨o,ln,va,vb,vc,vk⟩ base R R' a2 cap))(hbd:vs.length<=900000)(hN:(vs.length:Int)-1=N):MfC 34 W (λW'=>W'.cell? ⟨w.heap.size+1,0,none⟩=some (.slice b1 m1 e1)/\W'.cell? ⟨w.heap.size+1,1,none⟩=some (.slice a2 vs.length cap)/\W'.cell? ⟨w.heap.size+1,2,none⟩=some (.slice b3 m3 e3)/\Hid (∃w3,Kept 0 0 W w3/\W'=fe w3 (w.heap.size+1) (.slice b1 m1 e1) (.slice a2 vs.length cap) (.slice b3 m3 e3))) c0 c1 c2 c3 c4 (.pointer (some ⟨w.heap.size,0,none⟩)) c6 c7 c8 c9 (.pointer (some ⟨w.heap.size+1,0,none⟩)) c11 c12 c13 c14 c15 c16 c17 c18 c19 (.int .i64 N):=by
 exact no_implicit_lambda% xal
theorem FA {W:World}(HM:Hid (MS w W b1 m1 e1 b3 m3 e3 vs ⟨o,ln,va,vb,vc,vk⟩ base R R' a2 cap))(hbd:vs.length<=900000):MfC 58 W (MpR w b1 m1 e1 b3 m3 e3 vs ⟨o,ln,va,vb,vc,vk⟩ base R (eI o ln ta 0 vc)) c0 c1 (.int .i64 ta) c3 c4 (.pointer (some ⟨w.heap.size,0,none⟩)) c6 c7 c8 c9 c10 c11 (.pointer (some ⟨w.heap.size+1+1,0,none⟩)) (.int .i64 ln) c14 c15 c16 c17 c18 c19 c11:=by
 unfold MfC
 intros
 rename_i HK
 have HC:Hid (∀W1,Kept 0 0 W W1->_):=λW1 k=>MS.call HM.out k (eI o ln ta 0 vc) xaa
 have s0:=HM.out.g.c0
 have s1:=HM.out.g.c1
 have s2:=HM.out.g.c2
 have v0:=HM.out.v.c0
 exact xct
theorem FB {W:World}{i:Int}(HM:Hid (MS w W b1 m1 e1 b3 m3 e3 vs ⟨o,ln,va,vb,vc,vk⟩ base R R' a2 cap))(hbd:vs.length<=900000):MfC 57 W (MpR w b1 m1 e1 b3 m3 e3 vs ⟨o,ln,va,vb,vc,vk⟩ base R (eI 4 ln ta i 0)) c0 (.int .i64 i) (.int .i64 ta) c3 c4 (.pointer (some ⟨w.heap.size,0,none⟩)) c6 c7 c8 c9 c10 c11 (.pointer (some ⟨w.heap.size+1+1,0,none⟩)) (.int .i64 ln) c14 c15 c16 c17 c18 c19 c11:=by
 unfold MfC
 intros
 rename_i HK
 have HC:Hid (∀W1,Kept 0 0 W W1->_):=λW1 k=>MS.call HM.out k (eI 4 ln ta i 0) xaa
 exact xae
theorem rL {W:World}(HM:Hid (MS w W b1 m1 e1 b3 m3 e3 vs ⟨o,ln,va,vb,vc,vk⟩ base R R' a2 cap))(hbd:vs.length<=900000)(hN:(vs.length:Int)-1=N):MfC 53 W (λW'=>W'.cell? ⟨w.heap.size+1,0,none⟩=some (.slice b1 m1 e1)/\W'.cell? ⟨w.heap.size+1,1,none⟩=some (.slice a2 vs.length cap)/\W'.cell? ⟨w.heap.size+1,2,none⟩=some (.slice b3 m3 e3)/\Hid (∃w3,Kept 0 0 W w3/\W'=fe w3 (w.heap.size+1) (.slice b1 m1 e1) (.slice a2 vs.length cap) (.slice b3 m3 e3))) c0 c1 c2 c3 c4 (.pointer (some ⟨w.heap.size,0,none⟩)) c6 c7 c8 c9 (.pointer (some ⟨w.heap.size+1,0,none⟩)) c11 c12 c13 c14 c15 c16 c17 c18 c19 (.int .i64 N):=by
 exact no_implicit_lambda% xal
theorem zo {W:World}(HM:Hid (MS w W b1 m1 e1 b3 m3 e3 vs ⟨o,ln,va,vb,vc,vk⟩ base R R' a2 cap))(hbd:vs.length<=900000)(hN:(vs.length:Int)-1=N):MfC 59 W (λW'=>W'.cell? ⟨w.heap.size+1,0,none⟩=some (.slice b1 m1 e1)/\W'.cell? ⟨w.heap.size+1,1,none⟩=some (.slice a2 vs.length cap)/\W'.cell? ⟨w.heap.size+1,2,none⟩=some (.slice b3 m3 e3)/\Hid (∃w3,Kept 0 0 W w3/\W'=fe w3 (w.heap.size+1) (.slice b1 m1 e1) (.slice a2 vs.length cap) (.slice b3 m3 e3))) c0 c1 c2 c3 c4 (.pointer (some ⟨w.heap.size,0,none⟩)) c6 c7 c8 c9 (.pointer (some ⟨w.heap.size+1,0,none⟩)) c11 c12 c13 c14 c15 c16 c17 c18 c19 (.int .i64 N):=by
 exact no_implicit_lambda% xal
