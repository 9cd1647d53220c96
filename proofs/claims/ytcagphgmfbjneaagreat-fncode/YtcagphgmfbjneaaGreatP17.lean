import Derived.Test.YtcagphgmfbjneaaGreatP16
namespace Go.Proofs.Z
open Tryz
set_option maxRecDepth 1000000
set_option maxHeartbeats 0
open Go.RowKit Flt
attribute[local go_sem] eE eD eC
variable{w:World}{U aa J:Option Addr}{m1 af m3 ah base cap bD:Nat}{vs:List Vl}{o a5 bj X bz d N t z:Int}{R R':Option Nat}{c0 c1 c2 c3 c4 c5 cd ce b2 bp bY bU b6 cC co cu cq cg cl cn:Value}
theorem Gz{W}(Y:V (MS w W U m1 af aa m3 ah vs ⟨o,a5,bj,X,bz,bD⟩ base R R' J cap))(bM:vs.length<=900000):PfC 27 W (MpR w U m1 af aa m3 ah vs ⟨o,a5,bj,X,bz,bD⟩ base R (eJ 8 a5 t d z)) c0 c1 c2 (h1 d) (hZ w.heap.size) c5 cd ce b2 bp bY (hZ (w.heap.size+1+1)) (h1 a5) (h1 t) co (h1 z) cq cg cl cn bp bY:=by
 unfold PfC;intros;rename_i HK;have bf:V (∀ax,Kept 0 0 W ax->_):=λax k=>MS.call Y.o k (eJ 8 a5 t d z) xaa;exact xae
theorem GA{W}(Y:V (MS w W U m1 af aa m3 ah vs ⟨o,a5,bj,X,bz,bD⟩ base R R' J cap))(bM:vs.length<=900000):PfC 28 W (MpR w U m1 af aa m3 ah vs ⟨o,a5,bj,X,bz,bD⟩ base R (eJ 8 a5 t z d)) c0 c1 c2 (h1 d) (hZ w.heap.size) c5 cd ce b2 bp bY (hZ (w.heap.size+1+1)) (h1 a5) (h1 t) co (h1 z) cq cg cl cn bp bY:=by
 unfold PfC;intros;rename_i HK;have bf:V (∀ax,Kept 0 0 W ax->_):=λax k=>MS.call Y.o k (eJ 8 a5 t z d) xaa;exact xae
theorem NS{W}(Y:V (MS w W U m1 af aa m3 ah vs ⟨o,a5,bj,X,bz,bD⟩ base R R' J cap))(bM:vs.length<=900000):PfC 36 W (MpR w U m1 af aa m3 ah vs ⟨o,a5,bj,X,bz,bD⟩ base R (eJ 11 1 d 0 bz)) c0 c1 c2 (h1 d) (hZ w.heap.size) c5 cd ce b2 bp bY (hZ (w.heap.size+1+1)) b6 cC co cu cq cg cl cn bp bY:=by
 unfold PfC;intros;rename_i HK;have bf:V (∀ax,Kept 0 0 W ax->_):=λax k=>MS.call Y.o k (eJ 11 1 d 0 bz) xaa;have aY:=Y.o.g.c0;have ar:=Y.o.g.c1;have aW:=Y.o.g.c2;exact xcg
theorem GC{W}(Y:V (MS w W U m1 af aa m3 ah vs ⟨o,a5,bj,X,bz,bD⟩ base R R' J cap))(bM:vs.length<=900000):MfC 48 W (MpR w U m1 af aa m3 ah vs ⟨o,a5,bj,X,bz,bD⟩ base R (eJ 3 a5 bj X 0)) c0 c1 c2 c3 c4 (hZ w.heap.size) cd ce b2 bp bY bU (hZ (w.heap.size+1+1)) (h1 a5) co cu cq cg cl cn bU:=by
 unfold MfC;exact xbo
theorem NU{W q}(Y:V (MS w W U m1 af aa m3 ah vs ⟨o,a5,bj,X,bz,bD⟩ base R R' J cap))(bM:vs.length<=900000):MfC 33 W (MpR w U m1 af aa m3 ah vs ⟨o,a5,bj,X,bz,bD⟩ base R (eJ 6 a5 q 0 0)) c0 c1 c2 c3 c4 (hZ w.heap.size) cd ce b2 bp bY bU (hZ (w.heap.size+1+1)) (h1 a5) co (h1 q) cq cg cl cn bU:=by
 unfold MfC;intros;rename_i HK;have bf:V (∀ax,Kept 0 0 W ax->_):=λax k=>MS.call Y.o k (eJ 6 a5 q 0 0) xaa;exact xae
theorem GD{W}(Y:V (MS w W U m1 af aa m3 ah vs ⟨o,a5,bj,X,bz,bD⟩ base R R' J cap))(bM:vs.length<=900000)(bI:(vs.length:Int)-1=N):MfC 31 W (λH=>H.cell? ⟨w.heap.size+1,0,none⟩=some (.slice U m1 af)/\H.cell? ⟨w.heap.size+1,1,none⟩=some (.slice J vs.length cap)/\H.cell? ⟨w.heap.size+1,2,none⟩=some (.slice aa m3 ah)/\V (∃aU,Kept 0 0 W aU/\H=fg aU (w.heap.size+1) (.slice U m1 af) (.slice J vs.length cap) (.slice aa m3 ah))) c0 c1 c2 c3 c4 (hZ w.heap.size) cd ce b2 bp (hZ (w.heap.size+1)) bU b6 cC co cu cq cg cl cn (h1 N):=by
 exact no_implicit_lambda% xaf
theorem NV{W}(Y:V (MS w W U m1 af aa m3 ah vs ⟨o,a5,bj,X,bz,bD⟩ base R R' J cap))(bM:vs.length<=900000)(bI:(vs.length:Int)-1=N):MfC 34 W (λH=>H.cell? ⟨w.heap.size+1,0,none⟩=some (.slice U m1 af)/\H.cell? ⟨w.heap.size+1,1,none⟩=some (.slice J vs.length cap)/\H.cell? ⟨w.heap.size+1,2,none⟩=some (.slice aa m3 ah)/\V (∃aU,Kept 0 0 W aU/\H=fg aU (w.heap.size+1) (.slice U m1 af) (.slice J vs.length cap) (.slice aa m3 ah))) c0 c1 c2 c3 c4 (hZ w.heap.size) cd ce b2 bp (hZ (w.heap.size+1)) bU b6 cC co cu cq cg cl cn (h1 N):=by
 exact no_implicit_lambda% xaf
