import Derived.Test.YtiacbhjphaldlaaGreatDoorP18
namespace Go.Proofs.Z
open Tryz
set_option maxRecDepth 1000000
set_option maxHeartbeats 0
open Go.RowKit Flt
attribute[local go_sem] dI dG dF
theorem LS{w W L U m1 K m3 ag base cap vs o T aA aL a7 R R'}{aJ j:Nat}{la d c0 c1 c2 c5 bU ce b5 bz bN b9 cF cf b3 cg b7 cp ct}(O:M (MS w W L m1 K U m3 ag vs ⟨o,T,(j:Int),aA,aL,a7⟩ base R R' (some ⟨aJ,0,none⟩) cap))(aj:vs.length<=900000)(aK:j<vs.length)(l:(vs.getD j h7).len=la):PfC 34 W (MpR w L m1 K U m3 ag vs ⟨o,T,(j:Int),aA,aL,a7⟩ base R (dL 12 la d 0 aL)) c0 c1 c2 (h0 d) (ge w.heap.size) c5 bU ce b5 bz bN (ge (w.heap.size+1+1)) b9 cF cf b3 cg b7 cp ct bz bN:=by
 unfold PfC;intros;rename_i ay;have aE:M (∀aq,Kept 0 0 W aq->_):=λaq k=>MS.call O.o k (dL 12 la d 0 aL) xaa;have bq:=O.o.g.c0;have ak:=O.o.g.c1;have az:=O.o.g.c2;have aN:=O.o.v.c2;have aS:=O.o.v.c4;exact xbq
