import Derived.Test.YtkjahdegnkmejaaGreatP12
namespace Go.Proofs.Z
variable{Zp:Prop}
open Tryz Go.RowKit Flt
set_option maxRecDepth 1000000
set_option maxHeartbeats 0
section
attribute[local go_sem] eE eC eB
variable{w:World}{R U K:Option Addr}{m1 ad m3 ah base cap u:Nat}{vs:List Vl}{o Q l f r d i:Int}{H R':Option Nat}{c0 c1 c2 c5 J ag Y aX h aC aR an az aw N ai am:Value}
theorem LM{W}(Z:V (MS w W R m1 ad U m3 ah vs ⟨o,Q,l,f,r,u⟩ base H R' K cap))(bj:vs.length<=900000):PfC 6 W (MpR w R m1 ad U m3 ah vs ⟨o,Q,l,f,r,u⟩ base H (eK 6 Q d 0 0)) c0 c1 c2 (ih d) (ge w.heap.size) c5 J ag Y aX h (ge (w.heap.size+1+1)) (ih Q) aC an az aw N ai am aX h:=by
 unfold PfC;intros;rename_i HK;have bi:V (∀aq,Kept 0 0 W aq->_):=λaq k=>MS.call Z.o k (eK 6 Q d 0 0) xaa;exact xaf
theorem MV{W}(Z:V (MS w W R m1 ad U m3 ah vs ⟨o,Q,l,f,r,u⟩ base H R' K cap))(bj:vs.length<=900000):PfC 10 W (MpR w R m1 ad U m3 ah vs ⟨o,Q,l,f,r,u⟩ base H (eK 5 Q d f 0)) c0 c1 c2 (ih d) (ge w.heap.size) c5 J ag Y aX h (ge (w.heap.size+1+1)) (ih Q) aC an az aw N ai am aX h:=by
 unfold PfC;intros;rename_i HK;have bi:V (∀aq,Kept 0 0 W aq->_):=λaq k=>MS.call Z.o k (eK 5 Q d f 0) xaa;have a0:=Z.o.g.c0;have av:=Z.o.g.c1;have aT:=Z.o.g.c2;exact xan
theorem MW{W}(Z:V (MS w W R m1 ad U m3 ah vs ⟨o,Q,l,f,r,u⟩ base H R' K cap))(bj:vs.length<=900000):PfC 32 W (MpR w R m1 ad U m3 ah vs ⟨o,Q,l,f,r,u⟩ base H (eK 9 1 d 0 0)) c0 c1 c2 (ih d) (ge w.heap.size) c5 J ag Y aX h (ge (w.heap.size+1+1)) aR aC an az aw N ai am aX h:=by
 unfold PfC;intros;rename_i HK;have bi:V (∀aq,Kept 0 0 W aq->_):=λaq k=>MS.call Z.o k (eK 9 1 d 0 0) xaa;exact xaf
theorem MX{W}(Z:V (MS w W R m1 ad U m3 ah vs ⟨o,Q,l,f,r,u⟩ base H R' K cap))(bj:vs.length<=900000):PfC 12 W (MpR w R m1 ad U m3 ah vs ⟨o,Q,l,f,r,u⟩ base H (eK 4 Q d i 0)) c0 (ih i) c2 (ih d) (ge w.heap.size) c5 J ag Y aX h (ge (w.heap.size+1+1)) (ih Q) aC an az aw N ai am aX h:=by
 exact no_implicit_lambda% xbs
theorem MY{W}(Z:V (MS w W R m1 ad U m3 ah vs ⟨o,Q,l,f,r,u⟩ base H R' K cap))(bj:vs.length<=900000):PfC 37 W (MpR w R m1 ad U m3 ah vs ⟨o,Q,l,f,r,u⟩ base H (eK 4 Q d i 0)) c0 (ih i) c2 (ih d) (ge w.heap.size) c5 J ag Y aX h (ge (w.heap.size+1+1)) (ih Q) aC an az aw N ai am aX h:=by
 exact no_implicit_lambda% xbs
theorem ku{W aZ c3 P}(Z:V (MS w W R m1 ad U m3 ah vs ⟨o,Q,l,f,r,u⟩ base H R' K cap))(bj:vs.length<=900000)(bL:(vs.length:Int)-1=aZ):PfC 38 W (λF=>F.cell? ⟨w.heap.size+1,0,none⟩=some (.slice R m1 ad)/\F.cell? ⟨w.heap.size+1,1,none⟩=some (.slice K vs.length cap)/\F.cell? ⟨w.heap.size+1,2,none⟩=some (.slice U m3 ah)/\V (∃aM,Kept 0 0 W aM/\F=fk aM (w.heap.size+1) (.slice R m1 ad) (.slice K vs.length cap) (.slice U m3 ah))) c0 c1 c2 c3 (ge w.heap.size) c5 J ag (ge (w.heap.size+1)) aX h P aR aC an az aw N ai am (ih aZ) (.bool true):=by
 unfold PfC;intros;rename_i HK;have a0:=Z.o.g.c0;have av:=Z.o.g.c1;have aT:=Z.o.g.c2;obtain⟨_,bm,aW,bd,bC,bH,bJ⟩:=Z.o.b;have be:V _:=λW=>iV W R K U m1 ad vs.length cap m3 ah xaa;rw[bL]at be;clear bL;conv=>arg 2;whnf
 go_region_with (first
  |(go_at_call 66;refine yaj (be.o _) ?_;rintro e aM ⟨rfl,a9⟩;clear bm aW bd bC bH bJ;obtain⟨⟨_,_,aU,ax,aF,_,_,_,_⟩,⟨_,bm,aW,bd,bC,bH,bJ⟩,_,_,_,_,_⟩:=MS.keep Z.o ((eD W).trans a9)))
 all_goals
  obtain⟨a8,aJ,aP⟩:=fd _ _ _ _ _ bm aW bd (.slice R m1 ad) (.slice K vs.length cap) (.slice U m3 ah)
  exact HK _ ⟨a8,aJ,aP,⟨_,(eD W).trans a9,rfl⟩⟩
variable{w:World}{R U:Option Addr}{m1 ad cap m3 ah base a2 i j al:Nat}{vs:List Vl}{Q l f r y d aB:Int}{u:Nat}
theorem MZ(ab:MvH w cap base a2 i vs ⟨2,Q,l,f,r,u⟩):PtC w R U m1 ad cap m3 ah base a2 i vs (al:Int) d ([],d) true:=by
 exact xcd
theorem Jo(ab:MvH w cap base a2 i vs ⟨3,Q,l,f,r,u⟩):PtC w R U m1 ad cap m3 ah base a2 i vs 0 d ([],d) true:=by
 exact xcd
theorem Jp(ab:MvH w cap base a2 i vs ⟨3,Q,l,f,r,u⟩):PtC w R U m1 ad cap m3 ah base a2 i vs 1 d ([eK 6 Q d 0 0],((vs.length:Nat):Int)) true:=by
 exact no_implicit_lambda% xcb
theorem M0(ab:MvH w cap base a2 i vs ⟨6,Q,l,f,r,u⟩):PtC w R U m1 ad cap m3 ah base a2 i vs 0 d ([eK 6 Q d 0 0],((vs.length:Nat):Int)) true:=by
 exact no_implicit_lambda% xcb
theorem Jq(ab:MvH w cap base a2 i vs ⟨8,Q,l,f,r,u⟩):PtC w R U m1 ad cap m3 ah base a2 i vs 0 d ([],0) false:=by
 exact xcd
end
section
def ptM(i:Int)(v:Vl)(la:Int)(k:Nat)(d:Int)(N:Nat):List Vl×Int:=if oY v k=true then mX i v la k d N else ([],0)
end
section
attribute[local go_sem] eE eC eB
theorem Pa{w W R U m1 ad m3 ah base cap vs o Q l f r u H R' K d aB al c0 c1 c5 J ag Y aX h aC an az aw N ai am}(Z:V (MS w W R m1 ad U m3 ah vs ⟨o,Q,l,f,r,u⟩ base H R' K cap))(bj:vs.length<=900000)(bz:al<2)(bK:fld ⟨o,Q,l,f,r,u⟩ (1-al)=aB):PfC 8 W (MpR w R m1 ad U m3 ah vs ⟨o,Q,l,f,r,u⟩ base H (eK 4 Q d aB 0)) c0 c1 (ih al) (ih d) (ge w.heap.size) c5 J ag Y aX h (ge (w.heap.size+1+1)) (ih Q) aC an az aw N ai am aX h:=by
 unfold PfC;intros;rename_i HK;have bi:V (∀aq,Kept 0 0 W aq->_):=λaq k=>MS.call Z.o k (eK 4 Q d aB 0) xaa;have a0:=Z.o.g.c0;have av:=Z.o.g.c1;have aT:=Z.o.g.c2;have B:=Z.o.v.c0;have bf:=Z.o.v.c1;have bb:=Z.o.v.c2;have bc:=Z.o.v.c3;have C:=Z.o.v.c4;have au:=Z.o.v.c5;have bI:V (∀W,Calls _ _ _ W λe O=>e=.returned (.int _ aB)/\Kept 0 0 W _):=λW=>by rw[<-bK];exact mW W _ _ xaa
 have g:(1-al:Nat)=1-(al:Int):=xaa;rw[g]at bI;have fj:IntKind.i64.wrap (1-al)=1-al:=by rw[IntKind.wrap_i64];omega
 clear bK g;conv=>arg 2;whnf
 go_region_with (first
  |(go_at_call 59;refine yaj (bi.o _ (((eD W).trans b).trans ap)) ?_;rintro e ak ⟨aI,cap',rfl,⟨u0,bo⟩,⟨u1,ar⟩,⟨u2,aQ⟩,aj,_,a7⟩;have bR:=aj 0;have bV:=aj 1;have bW:=aj 2;clear aj)
  |(go_at_call 91;refine yaj (bI.o _) ?_;rintro e hu ⟨rfl,b⟩;have a5:=(MS.keep Z.o ((eD W).trans b)).g.c0;have cj:=(MS.keep Z.o ((eD W).trans b)).g.c1;have cw:=(MS.keep Z.o ((eD W).trans b)).g.c2)
  |(go_at_call 60;refine yaj (gq _ _ _ _ _ _) ?_;rintro e aK ⟨rfl,ap⟩;have bG:=(MS.keep Z.o (((eD W).trans b).trans ap)).g.c0;have bn:=(MS.keep Z.o (((eD W).trans b).trans ap)).g.c1;have p2:=(MS.keep Z.o (((eD W).trans b).trans ap)).g.c2))
 all_goals exact HK _ ⟨_,_,_,⟨rfl,by simp⟩,by simp,a7⟩
variable{w:World}{R U:Option Addr}{m1 ad cap m3 ah base a2 i j al:Nat}{vs:List Vl}{Q l f r y d aB:Int}{u:Nat}
theorem U.qau(h:Zp:=by
 unfold PtC;have aO:V _:=bK;clear bK;go_enter func129,ntmps129;go_wp2_with fail;rw[aZ.o];clear B bf bb bc C au aZ;refine fo (Pa Z xaa bz aO.o ?_);exact no_implicit_lambda% xai):Zp:=h
open U in
theorem M3(ab:MvH w cap base a2 i vs ⟨4,Q,l,f,r,u⟩)(bz:al<2)(bK:fld ⟨4,Q,l,f,r,u⟩ (1-al)=aB):PtC w R U m1 ad cap m3 ah base a2 i vs (al:Int) d ([eK 4 Q d aB 0],((vs.length:Nat):Int)) true:=by
 exact qat
theorem B.qam(h:Zp:=by
 refine fo (MV Z xaa ?_);exact no_implicit_lambda% xai):Zp:=h
open B in
theorem Jr(ab:MvH w cap base a2 i vs ⟨5,Q,l,f,r,u⟩):PtC w R U m1 ad cap m3 ah base a2 i vs 0 d ([eK 5 Q d f 0],((vs.length:Nat):Int)) true:=by
 exact qal
theorem C.qam(h:Zp:=by
 refine fo (MY Z xaa ?_);exact no_implicit_lambda% xai):Zp:=h
open C in
theorem M4(ab:MvH w cap base a2 i vs ⟨13,Q,l,f,r,u⟩):PtC w R U m1 ad cap m3 ah base a2 i vs 0 d ([eK 4 Q d (i:Int) 0],((vs.length:Nat):Int)) true:=by
 exact qal
