import Derived.Test.YtkjahdegnkmejaaGreatP08
namespace Go.Proofs.Z
open Tryz
set_option maxRecDepth 1000000
set_option maxHeartbeats 0
open Go.RowKit Flt
attribute[local go_sem] eE eC eB
theorem E0{w W R U m1 ad m3 ah base cap vs o Q l f r u H R' K aZ c0 c1 c2 c3 c4 J ag Y aX h P an az aw N ai am}(Z:V (MS w W R m1 ad U m3 ah vs ⟨o,Q,l,f,r,u⟩ base H R' K cap))(bj:vs.length<=900000)(bL:(vs.length:Int)-1=aZ):MfC 24 W (MpR w R m1 ad U m3 ah vs ⟨o,Q,l,f,r,u⟩ base H (eK 5 Q aZ f 0)) c0 c1 c2 c3 c4 (ge w.heap.size) J ag Y aX h P (ge (w.heap.size+1+1)) (ih Q) an az aw N ai am P:=by
 unfold MfC;exact xay
