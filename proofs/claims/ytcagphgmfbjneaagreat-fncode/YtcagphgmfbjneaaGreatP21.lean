import Derived.Test.YtcagphgmfbjneaaGreatP15
namespace Go.Proofs.Z
open Tryz
set_option maxRecDepth 1000000
set_option maxHeartbeats 0
open Go.RowKit Flt
attribute[local go_sem] eE eD eC
variable{w:World}{U aa J:Option Addr}{m1 af m3 ah base cap bD:Nat}{vs:List Vl}{o a5 bj X bz aQ N C:Int}{R R':Option Nat}{c0 c1 c2 c3 c4 cd ce b2 bp bY bU b6 co cC cu cq cg cl cn:Value}
theorem xU{W}(Y:V (MS w W U m1 af aa m3 ah vs ⟨o,a5,bj,X,bz,bD⟩ base R R' J cap))(bM:vs.length<=900000):MfC 17 W (MpR w U m1 af aa m3 ah vs ⟨o,a5,bj,X,bz,bD⟩ base R (eJ o a5 aQ X 0)) c0 c1 (h1 aQ) c3 c4 (hZ w.heap.size) cd ce b2 bp bY bU (hZ (w.heap.size+1+1)) (h1 a5) co cu cq cg cl cn bU:=by
 unfold MfC;intros;rename_i HK;have bf:V (∀ax,Kept 0 0 W ax->_):=λax k=>MS.call Y.o k (eJ o a5 aQ X 0) xaa;have aY:=Y.o.g.c0;have ar:=Y.o.g.c1;have aW:=Y.o.g.c2;have aw:=Y.o.v.c0;exact xao
theorem GE{W i}(Y:V (MS w W U m1 af aa m3 ah vs ⟨o,a5,bj,X,bz,bD⟩ base R R' J cap))(bM:vs.length<=900000):MfC 23 W (MpR w U m1 af aa m3 ah vs ⟨o,a5,bj,X,bz,bD⟩ base R (eJ 4 a5 i C 0)) c0 (h1 i) c2 (h1 C) c4 (hZ w.heap.size) cd ce b2 bp bY bU (hZ (w.heap.size+1+1)) (h1 a5) co cu cq cg cl cn bU:=by
 unfold MfC;intros;rename_i HK;have bf:V (∀ax,Kept 0 0 W ax->_):=λax k=>MS.call Y.o k (eJ 4 a5 i C 0) xaa;exact xae
theorem MX{W}(Y:V (MS w W U m1 af aa m3 ah vs ⟨o,a5,bj,X,bz,bD⟩ base R R' J cap))(bM:vs.length<=900000)(bI:(vs.length:Int)-1=N):MfC 6 W (λH=>H.cell? ⟨w.heap.size+1,0,none⟩=some (.slice U m1 af)/\H.cell? ⟨w.heap.size+1,1,none⟩=some (.slice J vs.length cap)/\H.cell? ⟨w.heap.size+1,2,none⟩=some (.slice aa m3 ah)/\V (∃aU,Kept 0 0 W aU/\H=fg aU (w.heap.size+1) (.slice U m1 af) (.slice J vs.length cap) (.slice aa m3 ah))) c0 c1 c2 c3 c4 (hZ w.heap.size) cd ce b2 bp (hZ (w.heap.size+1)) bU b6 cC co cu cq cg cl cn (h1 N):=by
 exact no_implicit_lambda% xaf
theorem Oa{W}(Y:V (MS w W U m1 af aa m3 ah vs ⟨o,a5,bj,X,bz,bD⟩ base R R' J cap))(bM:vs.length<=900000)(bI:(vs.length:Int)-1=N):MfC 11 W (λH=>H.cell? ⟨w.heap.size+1,0,none⟩=some (.slice U m1 af)/\H.cell? ⟨w.heap.size+1,1,none⟩=some (.slice J vs.length cap)/\H.cell? ⟨w.heap.size+1,2,none⟩=some (.slice aa m3 ah)/\V (∃aU,Kept 0 0 W aU/\H=fg aU (w.heap.size+1) (.slice U m1 af) (.slice J vs.length cap) (.slice aa m3 ah))) c0 c1 c2 c3 c4 (hZ w.heap.size) cd ce b2 bp (hZ (w.heap.size+1)) bU b6 cC co cu cq cg cl cn (h1 N):=by
 exact no_implicit_lambda% xaf
theorem MY{W}(Y:V (MS w W U m1 af aa m3 ah vs ⟨o,a5,bj,X,bz,bD⟩ base R R' J cap))(bM:vs.length<=900000):MfC 5 W (MpR w U m1 af aa m3 ah vs ⟨o,a5,bj,X,bz,bD⟩ base R (eJ o a5 aQ C 0)) c0 c1 (h1 aQ) (h1 C) c4 (hZ w.heap.size) cd ce b2 bp bY bU (hZ (w.heap.size+1+1)) (h1 a5) co cu cq cg cl cn bU:=by
 unfold MfC;intros;rename_i HK;have bf:V (∀ax,Kept 0 0 W ax->_):=λax k=>MS.call Y.o k (eJ o a5 aQ C 0) xaa;have aY:=Y.o.g.c0;have ar:=Y.o.g.c1;have aW:=Y.o.g.c2;have aw:=Y.o.v.c0;exact xad
theorem Ob{W}(Y:V (MS w W U m1 af aa m3 ah vs ⟨o,a5,bj,X,bz,bD⟩ base R R' J cap))(bM:vs.length<=900000):MfC 10 W (MpR w U m1 af aa m3 ah vs ⟨o,a5,bj,X,bz,bD⟩ base R (eJ 6 a5 C 0 0)) c0 c1 c2 (h1 C) c4 (hZ w.heap.size) cd ce b2 bp bY bU (hZ (w.heap.size+1+1)) (h1 a5) co cu cq cg cl cn bU:=by
 unfold MfC;intros;rename_i HK;have bf:V (∀ax,Kept 0 0 W ax->_):=λax k=>MS.call Y.o k (eJ 6 a5 C 0 0) xaa;exact xae
theorem GF{W p q a}(Y:V (MS w W U m1 af aa m3 ah vs ⟨o,a5,bj,X,bz,bD⟩ base R R' J cap))(bM:vs.length<=900000):MfC 30 W (MpR w U m1 af aa m3 ah vs ⟨o,a5,bj,X,bz,bD⟩ base R (eJ a a5 p q 0)) c0 c1 c2 c3 c4 (hZ w.heap.size) cd ce b2 bp bY bU (hZ (w.heap.size+1+1)) (h1 a5) (h1 p) (h1 q) (h1 a) cg cl cn bU:=by
 unfold MfC;intros;rename_i HK;have bf:V (∀ax,Kept 0 0 W ax->_):=λax k=>MS.call Y.o k (eJ a a5 p q 0) xaa;exact xae
