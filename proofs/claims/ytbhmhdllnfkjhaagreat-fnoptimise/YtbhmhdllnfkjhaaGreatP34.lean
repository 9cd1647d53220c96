import Derived.Test.YtbhmhdllnfkjhaaGreatP20
namespace Go.Proofs.Z
variable{Zp:Prop}
open Tryz Go.RowKit Flt
set_option maxRecDepth 1000000
set_option maxHeartbeats 0
section
attribute[local go_sem] eG eE eD
variable{w:World}{O Z Y:Option Addr}{m1 m3 af base cap aq:Nat}{vs:List Vl}{o G am r ak d i:Int}{U R':Option Nat}{c0 c1 c2 c5 aX aC ad X x a5 p aN a2 aU Q ar aw:Value}
theorem Mk{W e1}(aa:V (MS w W O m1 e1 Z m3 af vs ⟨o,G,am,r,ak,aq⟩ base U R' Y cap))(an:vs.length<=900000):PfC 6 W (MpR w O m1 e1 Z m3 af vs ⟨o,G,am,r,ak,aq⟩ base U (eL 6 G d 0 0)) c0 c1 c2 (hD d) (hB w.heap.size) c5 aX aC ad X x (hB (w.heap.size+1+1)) (hD G) a5 aN a2 aU Q ar aw X x:=by
 unfold PfC;intros;rename_i HK;have bc:V (∀az,Kept 0 0 W az->_):=λaz k=>MS.call aa.o k (eL 6 G d 0 0) xaa;exact xae
theorem NU{W e1}(aa:V (MS w W O m1 e1 Z m3 af vs ⟨o,G,am,r,ak,aq⟩ base U R' Y cap))(an:vs.length<=900000):PfC 10 W (MpR w O m1 e1 Z m3 af vs ⟨o,G,am,r,ak,aq⟩ base U (eL 5 G d r 0)) c0 c1 c2 (hD d) (hB w.heap.size) c5 aX aC ad X x (hB (w.heap.size+1+1)) (hD G) a5 aN a2 aU Q ar aw X x:=by
 unfold PfC;intros;rename_i HK;have bc:V (∀az,Kept 0 0 W az->_):=λaz k=>MS.call aa.o k (eL 5 G d r 0) xaa;have aT:=aa.o.g.c0;have ao:=aa.o.g.c1;have aG:=aa.o.g.c2;exact xan
theorem NV{W e1}(aa:V (MS w W O m1 e1 Z m3 af vs ⟨o,G,am,r,ak,aq⟩ base U R' Y cap))(an:vs.length<=900000):PfC 32 W (MpR w O m1 e1 Z m3 af vs ⟨o,G,am,r,ak,aq⟩ base U (eL 9 1 d 0 0)) c0 c1 c2 (hD d) (hB w.heap.size) c5 aX aC ad X x (hB (w.heap.size+1+1)) p a5 aN a2 aU Q ar aw X x:=by
 unfold PfC;intros;rename_i HK;have bc:V (∀az,Kept 0 0 W az->_):=λaz k=>MS.call aa.o k (eL 9 1 d 0 0) xaa;exact xae
theorem NW{W e1}(aa:V (MS w W O m1 e1 Z m3 af vs ⟨o,G,am,r,ak,aq⟩ base U R' Y cap))(an:vs.length<=900000):PfC 12 W (MpR w O m1 e1 Z m3 af vs ⟨o,G,am,r,ak,aq⟩ base U (eL 4 G d i 0)) c0 (hD i) c2 (hD d) (hB w.heap.size) c5 aX aC ad X x (hB (w.heap.size+1+1)) (hD G) a5 aN a2 aU Q ar aw X x:=by
 exact no_implicit_lambda% xbr
theorem NX{W e1}(aa:V (MS w W O m1 e1 Z m3 af vs ⟨o,G,am,r,ak,aq⟩ base U R' Y cap))(an:vs.length<=900000):PfC 37 W (MpR w O m1 e1 Z m3 af vs ⟨o,G,am,r,ak,aq⟩ base U (eL 4 G d i 0)) c0 (hD i) c2 (hD d) (hB w.heap.size) c5 aX aC ad X x (hB (w.heap.size+1+1)) (hD G) a5 aN a2 aU Q ar aw X x:=by
 exact no_implicit_lambda% xbr
theorem kQ{W e1 aH c3 c}(aa:V (MS w W O m1 e1 Z m3 af vs ⟨o,G,am,r,ak,aq⟩ base U R' Y cap))(an:vs.length<=900000)(bw:(vs.length:Int)-1=aH):PfC 38 W (λW'=>W'.cell? ⟨w.heap.size+1,0,none⟩=some (.slice O m1 e1)/\W'.cell? ⟨w.heap.size+1,1,none⟩=some (.slice Y vs.length cap)/\W'.cell? ⟨w.heap.size+1,2,none⟩=some (.slice Z m3 af)/\V (∃a7,Kept 0 0 W a7/\W'=fw a7 (w.heap.size+1) (.slice O m1 e1) (.slice Y vs.length cap) (.slice Z m3 af))) c0 c1 c2 c3 (hB w.heap.size) c5 aX aC (hB (w.heap.size+1)) X x c p a5 aN a2 aU Q ar aw (hD aH) (.bool true):=by
 unfold PfC;intros;rename_i HK;have aT:=aa.o.g.c0;have ao:=aa.o.g.c1;have aG:=aa.o.g.c2;obtain⟨_,bf,aP,aY,bI,bB,bE⟩:=aa.o.b;have aK:V _:=λW=>jf W O Y Z m1 e1 vs.length cap m3 af xaa;rw[bw]at aK;clear bw;conv=>arg 2;whnf
 go_region_with (first
  |(go_at_call 41;refine yaj (aK.o _) ?_;rintro e a7 ⟨rfl,aF⟩;clear bf aP aY bI bB bE;obtain⟨⟨_,_,bd,aL,aJ,_,_,_,_⟩,⟨_,bf,aP,aY,bI,bB,bE⟩,_,_,_,_,_⟩:=MS.keep aa.o ((eF W).trans aF)))
 all_goals
  obtain⟨bb,aM,aQ⟩:=eZ _ _ _ _ _ bf aP aY (.slice O m1 e1) (.slice Y vs.length cap) (.slice Z m3 af)
  exact HK _ ⟨bb,aM,aQ,⟨_,(eF W).trans aF,rfl⟩⟩
variable{w:World}{O Z:Option Addr}{m1 e1 cap m3 af base ap i j ai:Nat}{vs:List Vl}{G am r ak l d F:Int}{aq:Nat}
theorem NZ(H:MvH w cap base ap i vs ⟨2,G,am,r,ak,aq⟩):PtC w O Z m1 e1 cap m3 af base ap i vs (ai:Int) d ([],d) true:=by
 exact xcc
theorem K0(H:MvH w cap base ap i vs ⟨3,G,am,r,ak,aq⟩):PtC w O Z m1 e1 cap m3 af base ap i vs 0 d ([],d) true:=by
 exact xcc
theorem K1(H:MvH w cap base ap i vs ⟨3,G,am,r,ak,aq⟩):PtC w O Z m1 e1 cap m3 af base ap i vs 1 d ([eL 6 G d 0 0],((vs.length:Nat):Int)) true:=by
 exact no_implicit_lambda% xca
theorem N0(H:MvH w cap base ap i vs ⟨6,G,am,r,ak,aq⟩):PtC w O Z m1 e1 cap m3 af base ap i vs 0 d ([eL 6 G d 0 0],((vs.length:Nat):Int)) true:=by
 exact no_implicit_lambda% xca
theorem K2(H:MvH w cap base ap i vs ⟨8,G,am,r,ak,aq⟩):PtC w O Z m1 e1 cap m3 af base ap i vs 0 d ([],0) false:=by
 exact xcc
end
section
def ptM(i:Int)(v:Vl)(la:Int)(k:Nat)(d:Int)(N:Nat):List Vl×Int:=if pJ v k=true then nH i v la k d N else ([],0)
end
section
attribute[local go_sem] eG eE eD
theorem Pv{w W O Z m1 e1 m3 af base cap vs o G am r ak aq U R' Y d F ai c0 c1 c5 aX aC ad X x a5 aN a2 aU Q ar aw}(aa:V (MS w W O m1 e1 Z m3 af vs ⟨o,G,am,r,ak,aq⟩ base U R' Y cap))(an:vs.length<=900000)(K:ai<2)(bp:fld ⟨o,G,am,r,ak,aq⟩ (1-ai)=F):PfC 8 W (MpR w O m1 e1 Z m3 af vs ⟨o,G,am,r,ak,aq⟩ base U (eL 4 G d F 0)) c0 c1 (hD ai) (hD d) (hB w.heap.size) c5 aX aC ad X x (hB (w.heap.size+1+1)) (hD G) a5 aN a2 aU Q ar aw X x:=by
 unfold PfC;intros;rename_i HK;have bc:V (∀az,Kept 0 0 W az->_):=λaz k=>MS.call aa.o k (eL 4 G d F 0) xaa;have aT:=aa.o.g.c0;have ao:=aa.o.g.c1;have aG:=aa.o.g.c2;have bF:=aa.o.v.c0;have a9:=aa.o.v.c1;have ba:=aa.o.v.c2;have be:=aa.o.v.c3;have bi:=aa.o.v.c4;have s:=aa.o.v.c5;have c7:V (∀W,Calls _ _ _ W λe I=>e=.returned (.int _ F)/\Kept 0 0 W _):=λW=>by rw[<-bp];exact lW W _ _ xaa
 have f:(1-ai:Nat)=1-(ai:Int):=xaa;rw[f]at c7;have fs:IntKind.i64.wrap (1-ai)=1-ai:=by rw[IntKind.wrap_i64];omega
 clear bp f;conv=>arg 2;whnf
 go_region_with (first
  |(go_at_call 38;refine yaj (bc.o _ (((eF W).trans c).trans aj)) ?_;rintro e ag ⟨aB,cap',rfl,⟨u0,bm⟩,⟨u1,ay⟩,⟨u2,aW⟩,ae,_,a0⟩;have bv:=ae 0;have bA:=ae 1;have bM:=ae 2;clear ae)
  |(go_at_call 49;refine yaj (c7.o _) ?_;rintro e hu ⟨rfl,c⟩;have aJ:=(MS.keep aa.o ((eF W).trans c)).g.c0;have b1:=(MS.keep aa.o ((eF W).trans c)).g.c1;have ce:=(MS.keep aa.o ((eF W).trans c)).g.c2)
  |(go_at_call 40;refine yaj (gO _ _ _ _ _ _) ?_;rintro e aO ⟨rfl,aj⟩;have a8:=(MS.keep aa.o (((eF W).trans c).trans aj)).g.c0;have aV:=(MS.keep aa.o (((eF W).trans c).trans aj)).g.c1;have p2:=(MS.keep aa.o (((eF W).trans c).trans aj)).g.c2))
 all_goals exact HK _ ⟨_,_,_,⟨rfl,by simp⟩,by simp,a0⟩
variable{w:World}{O Z:Option Addr}{m1 e1 cap m3 af base ap i j ai:Nat}{vs:List Vl}{G am r ak l d F:Int}{aq:Nat}
theorem aF.qaw(h:Zp:=by
 unfold PtC;have aI:V _:=bp;clear bp;go_enter func164,ntmps164;go_wp2_with fail;rw[aS.o];clear bF a9 ba be bi s aS;refine fx (Pv aa xaa K aI.o ?_);exact no_implicit_lambda% xah):Zp:=h
open aF in
theorem N1(H:MvH w cap base ap i vs ⟨4,G,am,r,ak,aq⟩)(K:ai<2)(bp:fld ⟨4,G,am,r,ak,aq⟩ (1-ai)=F):PtC w O Z m1 e1 cap m3 af base ap i vs (ai:Int) d ([eL 4 G d F 0],((vs.length:Nat):Int)) true:=by
 exact qav
theorem H.qao(h:Zp:=by
 refine fx (NU aa xaa ?_);exact no_implicit_lambda% xah):Zp:=h
open H in
theorem K3(H:MvH w cap base ap i vs ⟨5,G,am,r,ak,aq⟩):PtC w O Z m1 e1 cap m3 af base ap i vs 0 d ([eL 5 G d r 0],((vs.length:Nat):Int)) true:=by
 exact qan
theorem I.qao(h:Zp:=by
 refine fx (NX aa xaa ?_);exact no_implicit_lambda% xah):Zp:=h
open I in
theorem N2(H:MvH w cap base ap i vs ⟨13,G,am,r,ak,aq⟩):PtC w O Z m1 e1 cap m3 af base ap i vs 0 d ([eL 4 G d (i:Int) 0],((vs.length:Nat):Int)) true:=by
 exact qan
