import Derived.Test.YtiacbhjphaldlaaGreatDoorP18
namespace Go.Proofs.Z
open Tryz
set_option maxRecDepth 1000000
set_option maxHeartbeats 0
open Go.RowKit Flt
attribute[local go_sem] dI dG dF
variable{w:World}{L U a2:Option Addr}{m1 K m3 ag base cap a7:Nat}{vs:List Vl}{o T aB aA aL N ad:Int}{R R':Option Nat}{c0 c1 c2 c3 c4 bU ce b5 bz bN Y b9 cf cF b3 cg b7 cp ct:Value}
theorem Mc{W}(O:M (MS w W L m1 K U m3 ag vs ⟨o,T,aB,aA,aL,a7⟩ base R R' a2 cap))(aj:vs.length<=900000):MfC 58 W (MpR w L m1 K U m3 ag vs ⟨o,T,aB,aA,aL,a7⟩ base R (dL o T ad 0 aL)) c0 c1 (h0 ad) c3 c4 (ge w.heap.size) bU ce b5 bz bN Y (ge (w.heap.size+1+1)) (h0 T) cf b3 cg b7 cp ct Y:=by
 unfold MfC;intros;rename_i ay;have aE:M (∀aq,Kept 0 0 W aq->_):=λaq k=>MS.call O.o k (dL o T ad 0 aL) xaa;have bq:=O.o.g.c0;have ak:=O.o.g.c1;have az:=O.o.g.c2;have bh:=O.o.v.c0;exact xbw
theorem Md{W i}(O:M (MS w W L m1 K U m3 ag vs ⟨o,T,aB,aA,aL,a7⟩ base R R' a2 cap))(aj:vs.length<=900000):MfC 57 W (MpR w L m1 K U m3 ag vs ⟨o,T,aB,aA,aL,a7⟩ base R (dL 4 T ad i 0)) c0 (h0 i) (h0 ad) c3 c4 (ge w.heap.size) bU ce b5 bz bN Y (ge (w.heap.size+1+1)) (h0 T) cf b3 cg b7 cp ct Y:=by
 unfold MfC;intros;rename_i ay;have aE:M (∀aq,Kept 0 0 W aq->_):=λaq k=>MS.call O.o k (dL 4 T ad i 0) xaa;exact xae
theorem vr{W}(O:M (MS w W L m1 K U m3 ag vs ⟨o,T,aB,aA,aL,a7⟩ base R R' a2 cap))(aj:vs.length<=900000)(bb:(vs.length:Int)-1=N):MfC 53 W (λA=>A.cell? ⟨w.heap.size+1,0,none⟩=some (.slice L m1 K)/\A.cell? ⟨w.heap.size+1,1,none⟩=some (.slice a2 vs.length cap)/\A.cell? ⟨w.heap.size+1,2,none⟩=some (.slice U m3 ag)/\M (∃ao,Kept 0 0 W ao/\A=eY ao (w.heap.size+1) (.slice L m1 K) (.slice a2 vs.length cap) (.slice U m3 ag))) c0 c1 c2 c3 c4 (ge w.heap.size) bU ce b5 bz (ge (w.heap.size+1)) Y b9 cF cf b3 cg b7 cp ct (h0 N):=by
 exact no_implicit_lambda% xaf
theorem DU{W}(O:M (MS w W L m1 K U m3 ag vs ⟨o,T,aB,aA,aL,a7⟩ base R R' a2 cap))(aj:vs.length<=900000)(bb:(vs.length:Int)-1=N):MfC 59 W (λA=>A.cell? ⟨w.heap.size+1,0,none⟩=some (.slice L m1 K)/\A.cell? ⟨w.heap.size+1,1,none⟩=some (.slice a2 vs.length cap)/\A.cell? ⟨w.heap.size+1,2,none⟩=some (.slice U m3 ag)/\M (∃ao,Kept 0 0 W ao/\A=eY ao (w.heap.size+1) (.slice L m1 K) (.slice a2 vs.length cap) (.slice U m3 ag))) c0 c1 c2 c3 c4 (ge w.heap.size) bU ce b5 bz (ge (w.heap.size+1)) Y b9 cF cf b3 cg b7 cp ct (h0 N):=by
 exact no_implicit_lambda% xaf
