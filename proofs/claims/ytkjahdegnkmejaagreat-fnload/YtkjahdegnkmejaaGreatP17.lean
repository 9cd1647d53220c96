import Derived.Test.YtkjahdegnkmejaaGreatP16
import Derived.Test.YtkjahdegnkmejaaGreatP15
namespace Go.Proofs.Z
variable{Zp:Prop}
open Tryz
set_option maxRecDepth 1000000
set_option maxHeartbeats 0
open Go.RowKit Flt
attribute[local go_sem] eE eC eB
variable{w:World}{R U K:Option Addr}{m1 ad m3 ah base cap u:Nat}{vs:List Vl}{o Q l f r d t z:Int}{H R':Option Nat}{c0 c1 c2 c5 J ag Y aX h an aw N ai am:Value}
theorem Fs{W}(Z:V (MS w W R m1 ad U m3 ah vs ⟨o,Q,l,f,r,u⟩ base H R' K cap))(bj:vs.length<=900000):PfC 27 W (MpR w R m1 ad U m3 ah vs ⟨o,Q,l,f,r,u⟩ base H (eK 8 Q t d z)) c0 c1 c2 (ih d) (ge w.heap.size) c5 J ag Y aX h (ge (w.heap.size+1+1)) (ih Q) (ih t) an (ih z) aw N ai am aX h:=by
 unfold PfC;intros;rename_i HK;have bi:V (∀aq,Kept 0 0 W aq->_):=λaq k=>MS.call Z.o k (eK 8 Q t d z) xaa;exact xaf
theorem Ft{W}(Z:V (MS w W R m1 ad U m3 ah vs ⟨o,Q,l,f,r,u⟩ base H R' K cap))(bj:vs.length<=900000):PfC 28 W (MpR w R m1 ad U m3 ah vs ⟨o,Q,l,f,r,u⟩ base H (eK 8 Q t z d)) c0 c1 c2 (ih d) (ge w.heap.size) c5 J ag Y aX h (ge (w.heap.size+1+1)) (ih Q) (ih t) an (ih z) aw N ai am aX h:=by
 unfold PfC;intros;rename_i HK;have bi:V (∀aq,Kept 0 0 W aq->_):=λaq k=>MS.call Z.o k (eK 8 Q t z d) xaa;exact xaf
theorem M5{W aR aC az}(Z:V (MS w W R m1 ad U m3 ah vs ⟨o,Q,l,f,r,u⟩ base H R' K cap))(bj:vs.length<=900000):PfC 36 W (MpR w R m1 ad U m3 ah vs ⟨o,Q,l,f,r,u⟩ base H (eK 11 1 d 0 r)) c0 c1 c2 (ih d) (ge w.heap.size) c5 J ag Y aX h (ge (w.heap.size+1+1)) aR aC an az aw N ai am aX h:=by
 unfold PfC;intros;rename_i HK;have bi:V (∀aq,Kept 0 0 W aq->_):=λaq k=>MS.call Z.o k (eK 11 1 d 0 r) xaa;have a0:=Z.o.g.c0;have av:=Z.o.g.c1;have aT:=Z.o.g.c2;exact xcg
variable{w:World}{R U:Option Addr}{m1 ad cap m3 ah base a2 i j al:Nat}{vs:List Vl}{Q l f r y d aB:Int}{u:Nat}
theorem D.qam(h:Zp:=by
 refine fo (MX Z xaa ?_);clear Z;unfold PfK;intros;rename_i wc X;obtain⟨g,aI,cap',b,ao,Z⟩:=X;go_wp2_with fail;refine fo (MT Z xaa (show(g.length:Int)-1=(vs.length:Nat) by have:=b.o.2;omega) ?_);clear Z;unfold PfK;intros;rename_i wc X;obtain⟨vs2,aI,cap',m,v,Z⟩:=X;go_wp2_with fail;refine fo (MU Z xaa (show(vs2.length:Int)-1=((vs.length:Nat)+1) by have:=b.o.2;have:=m.o.2;omega) ?_);exact no_implicit_lambda% xbi):Zp:=h
open D in
theorem Js(ab:MvH w cap base a2 i vs ⟨5,Q,l,f,r,u⟩):PtC w R U m1 ad cap m3 ah base a2 i vs 1 d ([eK 4 Q d (i:Int) 0,eK 5 Q ((vs.length:Nat):Int) f 0,eK 6 Q (((vs.length:Nat):Int)+1) 0 0],(((vs.length:Nat):Int)+2)) true:=by
 exact qal
theorem E.qam(h:Zp:=by
 refine fo (M5 Z xaa ?_);exact no_implicit_lambda% xai):Zp:=h
open E in
theorem M6(ab:MvH w cap base a2 i vs ⟨12,Q,l,f,r,u⟩):PtC w R U m1 ad cap m3 ah base a2 i vs 0 d ([eK 11 1 d 0 r],((vs.length:Nat):Int)) true:=by
 exact qal
