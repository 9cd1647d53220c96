import Derived.Test.YtamokkcfibdghaaGreatP12
namespace Go.Proofs.Z
open Tryz
set_option maxRecDepth 1000000
set_option maxHeartbeats 0
open Go.RowKit Flt
attribute [local go_sem] eG eE eD
variable {w:World}{N ab a2:Option Addr}{m1 ae m3 ak base cap X:Nat}{vs:List Vl}{o Q y r u bQ ao:Int}{aa R':Option Nat}{c0 c1 c2 c3 c4 ar av B ah m f Y az aP aL aF I R aq:Value}
theorem MC{W}(ad:V (MS w W N m1 ae ab m3 ak vs ⟨o,Q,y,r,u,X⟩ base aa R' a2 cap))(au:vs.length<=900000):MfC 58 W (MpR w N m1 ae ab m3 ak vs ⟨o,Q,y,r,u,X⟩ base aa (eL o Q ao 0 u)) c0 c1 (hI ao) c3 c4 (hG w.heap.size) ar av B ah m f (hG (w.heap.size+1+1)) (hI Q) az aL aF I R aq f:=by
 unfold MfC;intros;rename_i HK;have bl:V (∀aD,Kept 0 0 W aD->_):=λaD k=>MS.call ad.o k (eL o Q ao 0 u) xaa;have s0:=ad.o.g.c0;have ax:=ad.o.g.c1;have aN:=ad.o.g.c2;have ay:=ad.o.v.c0;exact xda
theorem MD{W i}(ad:V (MS w W N m1 ae ab m3 ak vs ⟨o,Q,y,r,u,X⟩ base aa R' a2 cap))(au:vs.length<=900000):MfC 57 W (MpR w N m1 ae ab m3 ak vs ⟨o,Q,y,r,u,X⟩ base aa (eL 4 Q ao i 0)) c0 (hI i) (hI ao) c3 c4 (hG w.heap.size) ar av B ah m f (hG (w.heap.size+1+1)) (hI Q) az aL aF I R aq f:=by
 unfold MfC;intros;rename_i HK;have bl:V (∀aD,Kept 0 0 W aD->_):=λaD k=>MS.call ad.o k (eL 4 Q ao i 0) xaa;exact xah
theorem wY{W}(ad:V (MS w W N m1 ae ab m3 ak vs ⟨o,Q,y,r,u,X⟩ base aa R' a2 cap))(au:vs.length<=900000)(bF:(vs.length:Int)-1=bQ):MfC 53 W (λW'=>W'.cell? ⟨w.heap.size+1,0,none⟩=some (.slice N m1 ae)/\W'.cell? ⟨w.heap.size+1,1,none⟩=some (.slice a2 vs.length cap)/\W'.cell? ⟨w.heap.size+1,2,none⟩=some (.slice ab m3 ak)/\V (∃aX,Kept 0 0 W aX/\W'=fB aX (w.heap.size+1) (.slice N m1 ae) (.slice a2 vs.length cap) (.slice ab m3 ak))) c0 c1 c2 c3 c4 (hG w.heap.size) ar av B ah (hG (w.heap.size+1)) f Y aP az aL aF I R aq (hI bQ):=by
 exact no_implicit_lambda% xak
theorem Fj{W}(ad:V (MS w W N m1 ae ab m3 ak vs ⟨o,Q,y,r,u,X⟩ base aa R' a2 cap))(au:vs.length<=900000)(bF:(vs.length:Int)-1=bQ):MfC 59 W (λW'=>W'.cell? ⟨w.heap.size+1,0,none⟩=some (.slice N m1 ae)/\W'.cell? ⟨w.heap.size+1,1,none⟩=some (.slice a2 vs.length cap)/\W'.cell? ⟨w.heap.size+1,2,none⟩=some (.slice ab m3 ak)/\V (∃aX,Kept 0 0 W aX/\W'=fB aX (w.heap.size+1) (.slice N m1 ae) (.slice a2 vs.length cap) (.slice ab m3 ak))) c0 c1 c2 c3 c4 (hG w.heap.size) ar av B ah (hG (w.heap.size+1)) f Y aP az aL aF I R aq (hI bQ):=by
 exact no_implicit_lambda% xak
