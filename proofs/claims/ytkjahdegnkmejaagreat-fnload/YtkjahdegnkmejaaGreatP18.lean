import Derived.Test.YtkjahdegnkmejaaGreatP17
namespace Go.Proofs.Z
variable{Zp:Prop}
open Tryz
set_option maxRecDepth 1000000
set_option maxHeartbeats 0
open Go.RowKit Flt
attribute[local go_sem] eE eC eB
variable{R U K:Option Addr}{m1 ad m3 ah base cap u:Nat}{vs:List Vl}{o Q l f r:Int}{H R':Option Nat}{c0 c1 c2 c3 c5 J ag Y aX h aC an az aw N ai am:Value}
theorem Fu{w W}(Z:V (MS w W R m1 ad U m3 ah vs ⟨o,Q,l,f,r,u⟩ base H R' K cap))(bj:vs.length<=900000):PfC 19 W (MpR w R m1 ad U m3 ah vs ⟨o,Q,l,f,r,u⟩ base H (eK 3 Q l f 0)) c0 c1 c2 c3 (ge w.heap.size) c5 J ag Y aX h (ge (w.heap.size+1+1)) (ih Q) aC an az aw N ai am aX h:=by
 unfold PfC;exact xbo
theorem wK{w W P}(Z:V (MS w W R m1 ad U m3 ah vs ⟨o,Q,l,f,r,u⟩ base H R' K cap))(bj:vs.length<=900000):PfC 24 W (MpR w R m1 ad U m3 ah vs ⟨o,Q,l,f,r,u⟩ base H (eK 1 Q 0 0 0)) c0 c1 c2 c3 (ge w.heap.size) c5 J ag Y aX h P (ih Q) aC an az aw N ai am aX h:=by
 unfold PfC;intros;rename_i HK;have bi:V (∀aq,Kept 0 0 W aq->_):=λaq k=>MS.call Z.o k (eK 1 Q 0 0 0) xaa;have a0:=Z.o.g.c0;have av:=Z.o.g.c1;have aT:=Z.o.g.c2;conv=>arg 2;whnf
 go_region_with (first
  |(go_at_call 59;refine yaj (bi.o _ ((eD W).trans ap)) ?_;rintro e ak ⟨aI,cap',rfl,⟨u0,bo⟩,⟨u1,ar⟩,⟨u2,aQ⟩,aj,_,a7⟩;have bR:=aj 0;have bV:=aj 1;have bW:=aj 2;clear aj)
  |(go_at_call 83;refine yaj (oJ _ _) ?_;rintro e aK ⟨rfl,ap⟩;have bG:=(MS.keep Z.o ((eD W).trans ap)).g.c0;have bn:=(MS.keep Z.o ((eD W).trans ap)).g.c1;have p2:=(MS.keep Z.o ((eD W).trans ap)).g.c2))
 all_goals exact HK _ ⟨_,_,_,⟨rfl,by simp⟩,by simp,a7⟩
variable{w:World}{R U:Option Addr}{m1 ad cap m3 ah base a2 i j al:Nat}{vs:List Vl}{Q l f r y d aB:Int}{u:Nat}
theorem F.qam(h:Zp:=by
 refine fo (Fu Z xaa ?_);exact no_implicit_lambda% qdc):Zp:=h
theorem F.qdd(h:Zp:=by
 exact no_implicit_lambda% qfo):Zp:=h
theorem F.qfp(h:Zp:=by
 refine fo (Fs Z xaa ?_);exact no_implicit_lambda% xbi):Zp:=h
open F in
theorem Jt(ab:MvH w cap base a2 i vs ⟨7,Q,l,f,r,u⟩):PtC w R U m1 ad cap m3 ah base a2 i vs 0 d ([eK 3 Q l f 0,eK 1 Q 0 0 0,eK 8 Q ((vs.length:Nat):Int) d (((vs.length:Nat):Int)+1)],(((vs.length:Nat):Int)+2)) true:=by
 exact qal
variable{w:World}{R U:Option Addr}{m1 ad cap m3 ah base a2 i j al:Nat}{vs:List Vl}{Q l f r y d aB:Int}{u:Nat}
theorem G.qam(h:Zp:=by
 refine fo (Fu Z xaa ?_);exact no_implicit_lambda% qdc):Zp:=h
theorem G.qdd(h:Zp:=by
 exact no_implicit_lambda% qfo):Zp:=h
theorem G.qfp(h:Zp:=by
 refine fo (Ft Z xaa ?_);exact no_implicit_lambda% xbi):Zp:=h
open G in
theorem Ju(ab:MvH w cap base a2 i vs ⟨7,Q,l,f,r,u⟩):PtC w R U m1 ad cap m3 ah base a2 i vs 1 d ([eK 3 Q l f 0,eK 1 Q 0 0 0,eK 8 Q ((vs.length:Nat):Int) (((vs.length:Nat):Int)+1) d],(((vs.length:Nat):Int)+2)) true:=by
 exact qal
variable{w:World}{R U:Option Addr}{m1 ad cap m3 ah base a2 i j al:Nat}{vs:List Vl}{Q l f r y d aB:Int}{u:Nat}
theorem H.qam(h:Zp:=by
 refine fo (wK Z xaa ?_);exact no_implicit_lambda% qdc):Zp:=h
theorem H.qdd(h:Zp:=by
 refine fo (Fs Z xaa ?_);exact no_implicit_lambda% xcs):Zp:=h
open H in
theorem Jv(ab:MvH w cap base a2 i vs ⟨8,Q,l,f,r,u⟩):PtC w R U m1 ad cap m3 ah base a2 i vs 1 d ([eK 1 Q 0 0 0,eK 8 Q l d ((vs.length:Nat):Int)],(((vs.length:Nat):Int)+1)) true:=by
 exact qal
variable{w:World}{R U:Option Addr}{m1 ad cap m3 ah base a2 i j al:Nat}{vs:List Vl}{Q l f r y d aB:Int}{u:Nat}
theorem I.qam(h:Zp:=by
 refine fo (wK Z xaa ?_);exact no_implicit_lambda% qdc):Zp:=h
theorem I.qdd(h:Zp:=by
 refine fo (Ft Z xaa ?_);exact no_implicit_lambda% xcs):Zp:=h
open I in
theorem Jw(ab:MvH w cap base a2 i vs ⟨8,Q,l,f,r,u⟩):PtC w R U m1 ad cap m3 ah base a2 i vs 2 d ([eK 1 Q 0 0 0,eK 8 Q l ((vs.length:Nat):Int) d],(((vs.length:Nat):Int)+1)) true:=by
 exact qal
