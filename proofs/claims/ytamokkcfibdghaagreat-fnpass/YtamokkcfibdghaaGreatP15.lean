import Derived.Test.YtamokkcfibdghaaGreatP12
namespace Go.Proofs.Z
open Tryz
set_option maxRecDepth 1000000
set_option maxHeartbeats 0
open Go.RowKit Flt
attribute [local go_sem] eG eE eD
theorem Fk{w W N ab m1 ae m3 ak base cap vs o Q y r u X aa R' a2 bQ c0 c1 c2 c3 c4 ar av B ah m f az aL aF I R aq}(ad:V (MS w W N m1 ae ab m3 ak vs ⟨o,Q,y,r,u,X⟩ base aa R' a2 cap))(au:vs.length<=900000)(bF:(vs.length:Int)-1=bQ):MfC 24 W (MpR w N m1 ae ab m3 ak vs ⟨o,Q,y,r,u,X⟩ base aa (eL 5 Q bQ r 0)) c0 c1 c2 c3 c4 (hG w.heap.size) ar av B ah m f (hG (w.heap.size+1+1)) (hI Q) az aL aF I R aq f:=by
 unfold MfC;exact xbj
