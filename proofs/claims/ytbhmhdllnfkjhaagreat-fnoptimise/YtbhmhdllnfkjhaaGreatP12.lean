import Derived.Test.YtbhmhdllnfkjhaaGreatP09
namespace Go.Proofs.Z
open Tryz
set_option maxRecDepth 1000000
set_option maxHeartbeats 0
open Go.RowKit Flt
attribute[local go_sem] eG eE eD
theorem FJ{w W O Z m1 e1 m3 af base cap vs o G am r ak aq U R' Y aH c0 c1 c2 c3 c4 aX aC ad X x c aN a2 aU Q ar aw}(aa:V (MS w W O m1 e1 Z m3 af vs ⟨o,G,am,r,ak,aq⟩ base U R' Y cap))(an:vs.length<=900000)(bw:(vs.length:Int)-1=aH):MfC 24 W (MpR w O m1 e1 Z m3 af vs ⟨o,G,am,r,ak,aq⟩ base U (eL 5 G aH r 0)) c0 c1 c2 c3 c4 (hB w.heap.size) aX aC ad X x c (hB (w.heap.size+1+1)) (hD G) aN a2 aU Q ar aw c:=by
 unfold MfC;exact xax
