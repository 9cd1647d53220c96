import Derived.Test.YtiacbhjphaldlaaGreatDoorP18
namespace Go.Proofs.Z
open Tryz
set_option maxRecDepth 1000000
set_option maxHeartbeats 0
open Go.RowKit Flt
attribute[local go_sem] dI dG dF
theorem DX{w W L U m1 K m3 ag base cap vs o T aB aA aL a7 R R' a2 N c0 c1 c2 c3 c4 bU ce b5 bz bN Y cf b3 cg b7 cp ct}(O:M (MS w W L m1 K U m3 ag vs ⟨o,T,aB,aA,aL,a7⟩ base R R' a2 cap))(aj:vs.length<=900000)(bb:(vs.length:Int)-1=N):MfC 24 W (MpR w L m1 K U m3 ag vs ⟨o,T,aB,aA,aL,a7⟩ base R (dL 5 T N aA 0)) c0 c1 c2 c3 c4 (ge w.heap.size) bU ce b5 bz bN Y (ge (w.heap.size+1+1)) (h0 T) cf b3 cg b7 cp ct Y:=by
 unfold MfC;exact xav
