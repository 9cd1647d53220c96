import Derived.Test.YtkjahdegnkmejaaGreatP08
namespace Go.Proofs.Z
open Tryz
set_option maxRecDepth 1000000
set_option maxHeartbeats 0
open Go.RowKit Flt
attribute[local go_sem] eE eC eB
variable{w:World}{R U K:Option Addr}{m1 ad m3 ah base cap u:Nat}{vs:List Vl}{o Q l f r aZ aA:Int}{H R':Option Nat}{c0 c1 c2 c3 c4 J ag Y aX h P aR an aC az aw N ai am:Value}
theorem MC{W}(Z:V (MS w W R m1 ad U m3 ah vs ⟨o,Q,l,f,r,u⟩ base H R' K cap))(bj:vs.length<=900000):MfC 58 W (MpR w R m1 ad U m3 ah vs ⟨o,Q,l,f,r,u⟩ base H (eK o Q aA 0 r)) c0 c1 (ih aA) c3 c4 (ge w.heap.size) J ag Y aX h P (ge (w.heap.size+1+1)) (ih Q) an az aw N ai am P:=by
 unfold MfC;intros;rename_i HK;have bi:V (∀aq,Kept 0 0 W aq->_):=λaq k=>MS.call Z.o k (eK o Q aA 0 r) xaa;have a0:=Z.o.g.c0;have av:=Z.o.g.c1;have aT:=Z.o.g.c2;have B:=Z.o.v.c0;exact xcg
theorem MD{W i}(Z:V (MS w W R m1 ad U m3 ah vs ⟨o,Q,l,f,r,u⟩ base H R' K cap))(bj:vs.length<=900000):MfC 57 W (MpR w R m1 ad U m3 ah vs ⟨o,Q,l,f,r,u⟩ base H (eK 4 Q aA i 0)) c0 (ih i) (ih aA) c3 c4 (ge w.heap.size) J ag Y aX h P (ge (w.heap.size+1+1)) (ih Q) an az aw N ai am P:=by
 unfold MfC;intros;rename_i HK;have bi:V (∀aq,Kept 0 0 W aq->_):=λaq k=>MS.call Z.o k (eK 4 Q aA i 0) xaa;exact xaf
theorem ww{W}(Z:V (MS w W R m1 ad U m3 ah vs ⟨o,Q,l,f,r,u⟩ base H R' K cap))(bj:vs.length<=900000)(bL:(vs.length:Int)-1=aZ):MfC 53 W (λF=>F.cell? ⟨w.heap.size+1,0,none⟩=some (.slice R m1 ad)/\F.cell? ⟨w.heap.size+1,1,none⟩=some (.slice K vs.length cap)/\F.cell? ⟨w.heap.size+1,2,none⟩=some (.slice U m3 ah)/\V (∃aM,Kept 0 0 W aM/\F=fk aM (w.heap.size+1) (.slice R m1 ad) (.slice K vs.length cap) (.slice U m3 ah))) c0 c1 c2 c3 c4 (ge w.heap.size) J ag Y aX (ge (w.heap.size+1)) P aR aC an az aw N ai am (ih aZ):=by
 exact no_implicit_lambda% xag
theorem EW{W}(Z:V (MS w W R m1 ad U m3 ah vs ⟨o,Q,l,f,r,u⟩ base H R' K cap))(bj:vs.length<=900000)(bL:(vs.length:Int)-1=aZ):MfC 59 W (λF=>F.cell? ⟨w.heap.size+1,0,none⟩=some (.slice R m1 ad)/\F.cell? ⟨w.heap.size+1,1,none⟩=some (.slice K vs.length cap)/\F.cell? ⟨w.heap.size+1,2,none⟩=some (.slice U m3 ah)/\V (∃aM,Kept 0 0 W aM/\F=fk aM (w.heap.size+1) (.slice R m1 ad) (.slice K vs.length cap) (.slice U m3 ah))) c0 c1 c2 c3 c4 (ge w.heap.size) J ag Y aX (ge (w.heap.size+1)) P aR aC an az aw N ai am (ih aZ):=by
 exact no_implicit_lambda% xag
