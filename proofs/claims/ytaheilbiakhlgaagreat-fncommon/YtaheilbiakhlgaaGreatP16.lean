import Derived.Test.YtaheilbiakhlgaaGreatP12
namespace Go.Proofs.Z
open Tryz
set_option maxRecDepth 1000000
set_option maxHeartbeats 0
open Go.RowKit Flt
attribute[local go_sem] eF eE eD
theorem Fc{w W N ad m1 af m3 aj base cap vs o G g f l m R R' Z bK c0 c1 c2 c3 c4 x y Y X h j I U O s u v}(ae:V (MS w W N m1 af ad m3 aj vs ⟨o,G,g,f,l,m⟩ base R R' Z cap))(aH:vs.length<=900000)(bB:(vs.length:Int)-1=bK):MfC 24 W (MpR w N m1 af ad m3 aj vs ⟨o,G,g,f,l,m⟩ base R (eK 5 G bK f 0)) c0 c1 c2 c3 c4 (hD w.heap.size) x y Y X h j (hD (w.heap.size+1+1)) (hF G) I U O s u v j:=by
 unfold MfC;exact xbf
