import Derived.Test.YtkjahdegnkmejaaGreatP12
namespace Go.Proofs.Z
open Tryz
set_option maxRecDepth 1000000
set_option maxHeartbeats 0
open Go.RowKit Flt
attribute[local go_sem] eE eC eB
variable{R U K:Option Addr}{m1 ad m3 ah base cap u:Nat}{vs:List Vl}{o Q l f r aZ:Int}{H R':Option Nat}{c0 c1 c2 c3 c5 J ag Y aX h aC an az aw N ai am:Value}
theorem MT{w W}(Z:V (MS w W R m1 ad U m3 ah vs ⟨o,Q,l,f,r,u⟩ base H R' K cap))(bj:vs.length<=900000)(bL:(vs.length:Int)-1=aZ):PfC 13 W (MpR w R m1 ad U m3 ah vs ⟨o,Q,l,f,r,u⟩ base H (eK 5 Q aZ f 0)) c0 c1 c2 c3 (ge w.heap.size) c5 J ag Y aX h (ge (w.heap.size+1+1)) (ih Q) aC an az aw N ai am aX h:=by
 unfold PfC;exact xay
theorem MU{w W}(Z:V (MS w W R m1 ad U m3 ah vs ⟨o,Q,l,f,r,u⟩ base H R' K cap))(bj:vs.length<=900000)(bL:(vs.length:Int)-1=aZ):PfC 14 W (MpR w R m1 ad U m3 ah vs ⟨o,Q,l,f,r,u⟩ base H (eK 6 Q aZ 0 0)) c0 c1 c2 c3 (ge w.heap.size) c5 J ag Y aX h (ge (w.heap.size+1+1)) (ih Q) aC an az aw N ai am aX h:=by
 unfold PfC;intros;rename_i HK;have bi:V (∀aq,Kept 0 0 W aq->_):=λaq k=>MS.call Z.o k (eK 6 Q aZ 0 0) xaa;have a0:=Z.o.g.c0;have av:=Z.o.g.c1;have aT:=Z.o.g.c2;have be:V (∀W:World,_):=λW=>iV W R K U m1 ad vs.length cap m3 ah xaa;rw[bL]at be;clear bL;conv=>arg 2;whnf
 go_region_with (first
  |(go_at_call 59;refine yaj (bi.o _ (((eD W).trans y).trans ap)) ?_;rintro e ak ⟨aI,cap',rfl,⟨u0,bo⟩,⟨u1,ar⟩,⟨u2,aQ⟩,aj,_,a7⟩;have bR:=aj 0;have bV:=aj 1;have bW:=aj 2;clear aj)
  |(go_at_call 66;refine yaj (be.o _) ?_;rintro e t ⟨rfl,y⟩;have a5:=(MS.keep Z.o ((eD W).trans y)).g.c0;have cj:=(MS.keep Z.o ((eD W).trans y)).g.c1;have cw:=(MS.keep Z.o ((eD W).trans y)).g.c2)
  |(go_at_call 60;refine yaj (gq _ _ _ _ _ _) ?_;rintro e aK ⟨rfl,ap⟩;have bG:=(MS.keep Z.o (((eD W).trans y).trans ap)).g.c0;have bn:=(MS.keep Z.o (((eD W).trans y).trans ap)).g.c1;have p2:=(MS.keep Z.o (((eD W).trans y).trans ap)).g.c2))
 all_goals exact HK _ ⟨_,_,_,⟨rfl,by simp⟩,by simp,a7⟩
