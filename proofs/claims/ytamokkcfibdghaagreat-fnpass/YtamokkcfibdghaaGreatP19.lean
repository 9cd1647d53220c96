import Derived.Test.YtamokkcfibdghaaGreatP16
namespace Go.Proofs.Z
open Tryz
set_option maxRecDepth 1000000
set_option maxHeartbeats 0
open Go.RowKit Flt
attribute [local go_sem] eG eE eD
variable {w:World}{N ab a2:Option Addr}{m1 ae m3 ak base cap X:Nat}{vs:List Vl}{o Q y r u d bQ t z:Int}{aa R':Option Nat}{c0 c1 c2 c3 c4 c5 ar av B ah m f Y aP az aL aF I R aq:Value}
theorem Ft{W}(ad:V (MS w W N m1 ae ab m3 ak vs ⟨o,Q,y,r,u,X⟩ base aa R' a2 cap))(au:vs.length<=900000):PfC 27 W (MpR w N m1 ae ab m3 ak vs ⟨o,Q,y,r,u,X⟩ base aa (eL 8 Q t d z)) c0 c1 c2 (hI d) (hG w.heap.size) c5 ar av B ah m (hG (w.heap.size+1+1)) (hI Q) (hI t) az (hI z) aF I R aq ah m:=by
 unfold PfC;intros;rename_i HK;have bl:V (∀aD,Kept 0 0 W aD->_):=λaD k=>MS.call ad.o k (eL 8 Q t d z) xaa;exact xah
theorem Fu{W}(ad:V (MS w W N m1 ae ab m3 ak vs ⟨o,Q,y,r,u,X⟩ base aa R' a2 cap))(au:vs.length<=900000):PfC 28 W (MpR w N m1 ae ab m3 ak vs ⟨o,Q,y,r,u,X⟩ base aa (eL 8 Q t z d)) c0 c1 c2 (hI d) (hG w.heap.size) c5 ar av B ah m (hG (w.heap.size+1+1)) (hI Q) (hI t) az (hI z) aF I R aq ah m:=by
 unfold PfC;intros;rename_i HK;have bl:V (∀aD,Kept 0 0 W aD->_):=λaD k=>MS.call ad.o k (eL 8 Q t z d) xaa;exact xah
theorem MO{W}(ad:V (MS w W N m1 ae ab m3 ak vs ⟨o,Q,y,r,u,X⟩ base aa R' a2 cap))(au:vs.length<=900000):PfC 36 W (MpR w N m1 ae ab m3 ak vs ⟨o,Q,y,r,u,X⟩ base aa (eL 11 1 d 0 u)) c0 c1 c2 (hI d) (hG w.heap.size) c5 ar av B ah m (hG (w.heap.size+1+1)) Y aP az aL aF I R aq ah m:=by
 unfold PfC;intros;rename_i HK;have bl:V (∀aD,Kept 0 0 W aD->_):=λaD k=>MS.call ad.o k (eL 11 1 d 0 u) xaa;have s0:=ad.o.g.c0;have ax:=ad.o.g.c1;have aN:=ad.o.g.c2;exact xda
theorem Fv{W}(ad:V (MS w W N m1 ae ab m3 ak vs ⟨o,Q,y,r,u,X⟩ base aa R' a2 cap))(au:vs.length<=900000):MfC 48 W (MpR w N m1 ae ab m3 ak vs ⟨o,Q,y,r,u,X⟩ base aa (eL 3 Q y r 0)) c0 c1 c2 c3 c4 (hG w.heap.size) ar av B ah m f (hG (w.heap.size+1+1)) (hI Q) az aL aF I R aq f:=by
 unfold MfC;exact xce
theorem MP{W q}(ad:V (MS w W N m1 ae ab m3 ak vs ⟨o,Q,y,r,u,X⟩ base aa R' a2 cap))(au:vs.length<=900000):MfC 33 W (MpR w N m1 ae ab m3 ak vs ⟨o,Q,y,r,u,X⟩ base aa (eL 6 Q q 0 0)) c0 c1 c2 c3 c4 (hG w.heap.size) ar av B ah m f (hG (w.heap.size+1+1)) (hI Q) az (hI q) aF I R aq f:=by
 unfold MfC;intros;rename_i HK;have bl:V (∀aD,Kept 0 0 W aD->_):=λaD k=>MS.call ad.o k (eL 6 Q q 0 0) xaa;exact xah
theorem Fw{W}(ad:V (MS w W N m1 ae ab m3 ak vs ⟨o,Q,y,r,u,X⟩ base aa R' a2 cap))(au:vs.length<=900000)(bF:(vs.length:Int)-1=bQ):MfC 31 W (λW'=>W'.cell? ⟨w.heap.size+1,0,none⟩=some (.slice N m1 ae)/\W'.cell? ⟨w.heap.size+1,1,none⟩=some (.slice a2 vs.length cap)/\W'.cell? ⟨w.heap.size+1,2,none⟩=some (.slice ab m3 ak)/\V (∃aX,Kept 0 0 W aX/\W'=fB aX (w.heap.size+1) (.slice N m1 ae) (.slice a2 vs.length cap) (.slice ab m3 ak))) c0 c1 c2 c3 c4 (hG w.heap.size) ar av B ah (hG (w.heap.size+1)) f Y aP az aL aF I R aq (hI bQ):=by
 exact no_implicit_lambda% xak
theorem MQ{W}(ad:V (MS w W N m1 ae ab m3 ak vs ⟨o,Q,y,r,u,X⟩ base aa R' a2 cap))(au:vs.length<=900000)(bF:(vs.length:Int)-1=bQ):MfC 34 W (λW'=>W'.cell? ⟨w.heap.size+1,0,none⟩=some (.slice N m1 ae)/\W'.cell? ⟨w.heap.size+1,1,none⟩=some (.slice a2 vs.length cap)/\W'.cell? ⟨w.heap.size+1,2,none⟩=some (.slice ab m3 ak)/\V (∃aX,Kept 0 0 W aX/\W'=fB aX (w.heap.size+1) (.slice N m1 ae) (.slice a2 vs.length cap) (.slice ab m3 ak))) c0 c1 c2 c3 c4 (hG w.heap.size) ar av B ah (hG (w.heap.size+1)) f Y aP az aL aF I R aq (hI bQ):=by
 exact no_implicit_lambda% xak
