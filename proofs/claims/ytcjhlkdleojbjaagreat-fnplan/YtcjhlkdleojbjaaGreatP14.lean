import Derived.Test.YtcjhlkdleojbjaaGreatP12
namespace Go.Proofs.Z
open Tryz
set_option maxRecDepth 1000000
set_option maxHeartbeats 0
open Go.RowKit Flt
attribute[local go_sem] eF eE eD
theorem GH{w W R aa m1 ae m3 ai base cap vs o C r vb bE bJ H R' U aV c0 c1 c2 c3 c4 cp cr cn bd ca aj cx an cy ct cu cw}(HM:E (MS w W R m1 ae aa m3 ai vs ⟨o,C,r,vb,bE,bJ⟩ base H R' U cap))(au:vs.length<=900000)(bC:(vs.length:Int)-1=aV):MfC 24 W (MpR w R m1 ae aa m3 ai vs ⟨o,C,r,vb,bE,bJ⟩ base H (eK 5 C aV vb 0)) c0 c1 c2 c3 c4 (hy w.heap.size) cp cr cn bd ca aj (hy (w.heap.size+1+1)) (hA C) cx an cy ct cu cw aj:=by
 unfold MfC;exact xat
