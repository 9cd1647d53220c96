import Derived.Test.YtbhmhdllnfkjhaaGreatP20
namespace Go.Proofs.Z
open Tryz
set_option maxRecDepth 1000000
set_option maxHeartbeats 0
open Go.RowKit Flt
attribute[local go_sem] eG eE eD
theorem NL{w W O Z m1 e1 m3 af base cap vs o G r ak aq U R'}{ap j:Nat}{l d c0 c1 c2 c5 aX aC ad X x p a5 aN a2 aU Q ar aw}(aa:V (MS w W O m1 e1 Z m3 af vs ⟨o,G,(j:Int),r,ak,aq⟩ base U R' (some ⟨ap,0,none⟩) cap))(an:vs.length<=900000)(hj:j<vs.length)(m:(vs.getD j hI).len=l):PfC 34 W (MpR w O m1 e1 Z m3 af vs ⟨o,G,(j:Int),r,ak,aq⟩ base U (eL 12 l d 0 ak)) c0 c1 c2 (hD d) (hB w.heap.size) c5 aX aC ad X x (hB (w.heap.size+1+1)) p a5 aN a2 aU Q ar aw X x:=by
 unfold PfC;intros;rename_i HK;have bc:V (∀az,Kept 0 0 W az->_):=λaz k=>MS.call aa.o k (eL 12 l d 0 ak) xaa;have aT:=aa.o.g.c0;have ao:=aa.o.g.c1;have aG:=aa.o.g.c2;have ba:=aa.o.v.c2;have bi:=aa.o.v.c4;exact xbx
