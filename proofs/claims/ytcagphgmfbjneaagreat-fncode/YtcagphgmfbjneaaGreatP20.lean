import Derived.Test.YtcagphgmfbjneaaGreatP16
namespace Go.Proofs.Z
open Tryz
set_option maxRecDepth 1000000
set_option maxHeartbeats 0
open Go.RowKit Flt
attribute[local go_sem] eE eD eC
theorem N9{w W U aa m1 af m3 ah base cap vs o a5 X bz bD R R'}{a0 j:Nat}{S d c0 c1 c2 c5 cd ce b2 bp bY b6 cC co cu cq cg cl cn}(Y:V (MS w W U m1 af aa m3 ah vs ⟨o,a5,(j:Int),X,bz,bD⟩ base R R' (some ⟨a0,0,none⟩) cap))(bM:vs.length<=900000)(hj:j<vs.length)(m:(vs.getD j h9).len=S):PfC 34 W (MpR w U m1 af aa m3 ah vs ⟨o,a5,(j:Int),X,bz,bD⟩ base R (eJ 12 S d 0 bz)) c0 c1 c2 (h1 d) (hZ w.heap.size) c5 cd ce b2 bp bY (hZ (w.heap.size+1+1)) b6 cC co cu cq cg cl cn bp bY:=by
 unfold PfC;intros;rename_i HK;have bf:V (∀ax,Kept 0 0 W ax->_):=λax k=>MS.call Y.o k (eJ 12 S d 0 bz) xaa;have aY:=Y.o.g.c0;have ar:=Y.o.g.c1;have aW:=Y.o.g.c2;have bb:=Y.o.v.c2;have bo:=Y.o.v.c4;exact xbz
