import Derived.Test.YtdpbpcnldpkljaaGreatP14
namespace Go.Proofs.Z
open Tryz
set_option maxRecDepth 1000000
set_option maxHeartbeats 0
open Go.RowKit Flt
attribute [local go_sem] eD eB eA
theorem zp {w W:World}{b1 b3:Option Addr}{m1 e1 m3 e3 base cap:Nat}{vs:List Vl}{o ln va vb vc:Int}{vk:Nat}{R R':Option Nat}{a2:Option Addr}{N:Int}{c0 c1 c2 c3 c4 c6 c7 c8 c9 c10 c11 c14 c15 c16 c17 c18 c19:Value}(HM:Hid (MS w W b1 m1 e1 b3 m3 e3 vs ⟨o,ln,va,vb,vc,vk⟩ base R R' a2 cap))(hbd:vs.length<=900000)(hN:(vs.length:Int)-1=N):MfC 24 W (MpR w b1 m1 e1 b3 m3 e3 vs ⟨o,ln,va,vb,vc,vk⟩ base R (eI 5 ln N vb 0)) c0 c1 c2 c3 c4 (.pointer (some ⟨w.heap.size,0,none⟩)) c6 c7 c8 c9 c10 c11 (.pointer (some ⟨w.heap.size+1+1,0,none⟩)) (.int .i64 ln) c14 c15 c16 c17 c18 c19 c11:=by
 unfold MfC
 exact xbe
