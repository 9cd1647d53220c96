import Derived.Test.YtcagphgmfbjneaaGreatP15
namespace Go.Proofs.Z
open Tryz
set_option maxRecDepth 1000000
set_option maxHeartbeats 0
open Go.RowKit Flt
attribute[local go_sem] eE eD eC
theorem GG{w W U aa m1 af m3 ah base cap vs o a5 bj X bz bD R R' J N c0 c1 c2 c3 c4 cd ce b2 bp bY bU co cu cq cg cl cn}(Y:V (MS w W U m1 af aa m3 ah vs ⟨o,a5,bj,X,bz,bD⟩ base R R' J cap))(bM:vs.length<=900000)(bI:(vs.length:Int)-1=N):MfC 24 W (MpR w U m1 af aa m3 ah vs ⟨o,a5,bj,X,bz,bD⟩ base R (eJ 5 a5 N X 0)) c0 c1 c2 c3 c4 (hZ w.heap.size) cd ce b2 bp bY bU (hZ (w.heap.size+1+1)) (h1 a5) co cu cq cg cl cn bU:=by
 unfold MfC;exact xay
