import Derived.Test.YtamokkcfibdghaaGreatP16
namespace Go.Proofs.Z
open Tryz
set_option maxRecDepth 1000000
set_option maxHeartbeats 0
open Go.RowKit Flt
attribute [local go_sem] eG eE eD
theorem MN{w W N ab m1 ae m3 ak base cap vs o Q r u X aa R'}{ag j:Nat}{l d c0 c1 c2 c5 ar av B ah m Y aP az aL aF I R aq}(ad:V (MS w W N m1 ae ab m3 ak vs ⟨o,Q,(j:Int),r,u,X⟩ base aa R' (some ⟨ag,0,none⟩) cap))(au:vs.length<=900000)(hj:j<vs.length)(ao:(vs.getD j hM).len=l):PfC 34 W (MpR w N m1 ae ab m3 ak vs ⟨o,Q,(j:Int),r,u,X⟩ base aa (eL 12 l d 0 u)) c0 c1 c2 (hI d) (hG w.heap.size) c5 ar av B ah m (hG (w.heap.size+1+1)) Y aP az aL aF I R aq ah m:=by
 unfold PfC;intros;rename_i HK;have bl:V (∀aD,Kept 0 0 W aD->_):=λaD k=>MS.call ad.o k (eL 12 l d 0 u) xaa;have s0:=ad.o.g.c0;have ax:=ad.o.g.c1;have aN:=ad.o.g.c2;have bd:=ad.o.v.c2;have Z:=ad.o.v.c4;exact xcu
