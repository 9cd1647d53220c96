import Derived.Test.YtbhmhdllnfkjhaaGreatP34
import Derived.Test.YtbhmhdllnfkjhaaGreatP31
namespace Go.Proofs.Z
variable{Zp:Prop}
open Tryz
set_option maxRecDepth 1000000
set_option maxHeartbeats 0
open Go.RowKit Flt
attribute[local go_sem] eG eE eD
variable{O Z Y:Option Addr}{m1 m3 af base cap aq:Nat}{vs:List Vl}{o G am r ak aH:Int}{U R':Option Nat}{c0 c1 c2 c3 c5 aX aC ad X x a5 aN a2 aU Q ar aw:Value}
theorem N3{w W e1}(aa:V (MS w W O m1 e1 Z m3 af vs ⟨o,G,am,r,ak,aq⟩ base U R' Y cap))(an:vs.length<=900000)(bw:(vs.length:Int)-1=aH):PfC 13 W (MpR w O m1 e1 Z m3 af vs ⟨o,G,am,r,ak,aq⟩ base U (eL 5 G aH r 0)) c0 c1 c2 c3 (hB w.heap.size) c5 aX aC ad X x (hB (w.heap.size+1+1)) (hD G) a5 aN a2 aU Q ar aw X x:=by
 unfold PfC;exact xax
theorem N4{w W e1}(aa:V (MS w W O m1 e1 Z m3 af vs ⟨o,G,am,r,ak,aq⟩ base U R' Y cap))(an:vs.length<=900000)(bw:(vs.length:Int)-1=aH):PfC 14 W (MpR w O m1 e1 Z m3 af vs ⟨o,G,am,r,ak,aq⟩ base U (eL 6 G aH 0 0)) c0 c1 c2 c3 (hB w.heap.size) c5 aX aC ad X x (hB (w.heap.size+1+1)) (hD G) a5 aN a2 aU Q ar aw X x:=by
 unfold PfC;intros;rename_i HK;have bc:V (∀az,Kept 0 0 W az->_):=λaz k=>MS.call aa.o k (eL 6 G aH 0 0) xaa;have aT:=aa.o.g.c0;have ao:=aa.o.g.c1;have aG:=aa.o.g.c2;have aK:V (∀W:World,_):=λW=>jf W O Y Z m1 e1 vs.length cap m3 af xaa;rw[bw]at aK;clear bw;conv=>arg 2;whnf
 go_region_with (first
  |(go_at_call 38;refine yaj (bc.o _ (((eF W).trans l).trans aj)) ?_;rintro e ag ⟨aB,cap',rfl,⟨u0,bm⟩,⟨u1,ay⟩,⟨u2,aW⟩,ae,_,a0⟩;have bv:=ae 0;have bA:=ae 1;have bM:=ae 2;clear ae)
  |(go_at_call 41;refine yaj (aK.o _) ?_;rintro e m ⟨rfl,l⟩;have aJ:=(MS.keep aa.o ((eF W).trans l)).g.c0;have b1:=(MS.keep aa.o ((eF W).trans l)).g.c1;have ce:=(MS.keep aa.o ((eF W).trans l)).g.c2)
  |(go_at_call 40;refine yaj (gO _ _ _ _ _ _) ?_;rintro e aO ⟨rfl,aj⟩;have a8:=(MS.keep aa.o (((eF W).trans l).trans aj)).g.c0;have aV:=(MS.keep aa.o (((eF W).trans l).trans aj)).g.c1;have p2:=(MS.keep aa.o (((eF W).trans l).trans aj)).g.c2))
 all_goals exact HK _ ⟨_,_,_,⟨rfl,by simp⟩,by simp,a0⟩
variable{w:World}{O Z:Option Addr}{m1 e1 cap m3 af base ap i j ai:Nat}{vs:List Vl}{G am r ak l d F:Int}{aq:Nat}
theorem J.qao(h:Zp:=by
 refine fx (NW aa xaa ?_);clear aa;unfold PfK;intros;rename_i wc C;obtain⟨c,aB,cap',f,I,aa⟩:=C;go_wp2_with fail;refine fx (N3 aa xaa (show(c.length:Int)-1=(vs.length:Nat) by have:=f.o.2;omega) ?_);clear aa;unfold PfK;intros;rename_i wc C;obtain⟨vs2,aB,cap',p,aA,aa⟩:=C;go_wp2_with fail;refine fx (N4 aa xaa (show(vs2.length:Int)-1=((vs.length:Nat)+1) by have:=f.o.2;have:=p.o.2;omega) ?_);exact no_implicit_lambda% xbh):Zp:=h
open J in
theorem K4(H:MvH w cap base ap i vs ⟨5,G,am,r,ak,aq⟩):PtC w O Z m1 e1 cap m3 af base ap i vs 1 d ([eL 4 G d (i:Int) 0,eL 5 G ((vs.length:Nat):Int) r 0,eL 6 G (((vs.length:Nat):Int)+1) 0 0],(((vs.length:Nat):Int)+2)) true:=by
 exact qan
theorem K.qao(h:Zp:=by
 refine fx (NM aa xaa ?_);exact no_implicit_lambda% xah):Zp:=h
open K in
theorem N6(H:MvH w cap base ap i vs ⟨12,G,am,r,ak,aq⟩):PtC w O Z m1 e1 cap m3 af base ap i vs 0 d ([eL 11 1 d 0 ak],((vs.length:Nat):Int)) true:=by
 exact qan
