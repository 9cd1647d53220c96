import Derived.Test.YtkjahdegnkmejaaGreatP12
namespace Go.Proofs.Z
open Tryz
set_option maxRecDepth 1000000
set_option maxHeartbeats 0
open Go.RowKit Flt
attribute[local go_sem] eE eC eB
theorem MR{w W R U m1 ad m3 ah base cap vs o Q f r u H R'}{a2 j:Nat}{y d c0 c1 c2 c5 J ag Y aX h aR aC an az aw N ai am}(Z:V (MS w W R m1 ad U m3 ah vs ⟨o,Q,(j:Int),f,r,u⟩ base H R' (some ⟨a2,0,none⟩) cap))(bj:vs.length<=900000)(hj:j<vs.length)(ax:(vs.getD j i0).len=y):PfC 34 W (MpR w R m1 ad U m3 ah vs ⟨o,Q,(j:Int),f,r,u⟩ base H (eK 12 y d 0 r)) c0 c1 c2 (ih d) (ge w.heap.size) c5 J ag Y aX h (ge (w.heap.size+1+1)) aR aC an az aw N ai am aX h:=by
 unfold PfC;intros;rename_i HK;have bi:V (∀aq,Kept 0 0 W aq->_):=λaq k=>MS.call Z.o k (eK 12 y d 0 r) xaa;have a0:=Z.o.g.c0;have av:=Z.o.g.c1;have aT:=Z.o.g.c2;have bb:=Z.o.v.c2;have C:=Z.o.v.c4;exact xbz
