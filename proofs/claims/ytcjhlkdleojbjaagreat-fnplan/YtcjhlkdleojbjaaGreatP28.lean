import Derived.Test.YtcjhlkdleojbjaaGreatP20
namespace Go.Proofs.Z
open Tryz
set_option maxRecDepth 1000000
set_option maxHeartbeats 0
open Go.RowKit Flt
attribute[local go_sem] eF eE eD
theorem Om{w W R aa m1 ae m3 ai base cap vs o C vb bE bJ H R'}{aN j:Nat}{l d c0 c1 c2 c5 cp cr cn bd ca N aM cx an cy ct cu cw}(HM:E (MS w W R m1 ae aa m3 ai vs ⟨o,C,(j:Int),vb,bE,bJ⟩ base H R' (some ⟨aN,0,none⟩) cap))(au:vs.length<=900000)(hj:j<vs.length)(m:(vs.getD j hF).len=l):PfC 34 W (MpR w R m1 ae aa m3 ai vs ⟨o,C,(j:Int),vb,bE,bJ⟩ base H (eK 12 l d 0 bE)) c0 c1 c2 (hA d) (hy w.heap.size) c5 cp cr cn bd ca (hy (w.heap.size+1+1)) N aM cx an cy ct cu cw bd ca:=by
 unfold PfC;intros;rename_i HK;have HC:E (∀az,Kept 0 0 W az->_):=λaz k=>MS.call HM.o k (eK 12 l d 0 bE) xaa;have aZ:=HM.o.g.c0;have ax:=HM.o.g.c1;have aU:=HM.o.g.c2;have a7:=HM.o.v.c2;have G:=HM.o.v.c4;exact xbr
