import Derived.Test.YtdpbpcnldpkljaaGreatP21
namespace Go.Proofs.Z
open Tryz
set_option maxRecDepth 1000000
set_option maxHeartbeats 0
open Go.RowKit Flt
attribute [local go_sem] eD eB eA
theorem FS {w W:World}{b1 b3:Option Addr}{m1 e1 m3 e3 base cap:Nat}{vs:List Vl}{o ln vb vc:Int}{vk:Nat}{R R':Option Nat}{g2 j:Nat}{la:Int}{d:Int}{c0 c1 c2 c5 c6 c7 c8 c9 c10 c12 c13 c14 c15 c16 c17 c18 c19:Value}(HM:Hid (MS w W b1 m1 e1 b3 m3 e3 vs ⟨o,ln,(j:Int),vb,vc,vk⟩ base R R' (some ⟨g2,0,none⟩) cap))(hbd:vs.length<=900000)(hj:j<vs.length)(hla:(vs.getD j Vl.zero).len=la):PfC 34 W (MpR w b1 m1 e1 b3 m3 e3 vs ⟨o,ln,(j:Int),vb,vc,vk⟩ base R (eI 12 la d 0 vc)) c0 c1 c2 (.int .i64 d) (.pointer (some ⟨w.heap.size,0,none⟩)) c5 c6 c7 c8 c9 c10 (.pointer (some ⟨w.heap.size+1+1,0,none⟩)) c12 c13 c14 c15 c16 c17 c18 c19 c9 c10:=by
 unfold PfC
 intros
 rename_i HK
 have HC:Hid (∀W1,Kept 0 0 W W1->_):=λW1 k=>MS.call HM.out k (eI 12 la d 0 vc) xaa
 have s0:=HM.out.g.c0
 have s1:=HM.out.g.c1
 have s2:=HM.out.g.c2
 have v2:=HM.out.v.c2
 have v4:=HM.out.v.c4
 exact xcf
