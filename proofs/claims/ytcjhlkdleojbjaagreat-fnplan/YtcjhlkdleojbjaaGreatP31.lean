import Derived.Test.YtcjhlkdleojbjaaGreatP30
import Derived.Test.YtcjhlkdleojbjaaGreatP29
namespace Go.Proofs.Z
variable{Zp:Prop}
open Tryz
set_option maxRecDepth 1000000
set_option maxHeartbeats 0
open Go.RowKit Flt
attribute[local go_sem] eF eE eD
variable{R aa U:Option Addr}{m1 ae m3 ai base cap bJ:Nat}{vs:List Vl}{o C r bE aV:Int}{H R':Option Nat}{c0 c1 c2 c3 c5 cp cr cn bd ca aM cx an cy ct cu cw:Value}
theorem OC{w W vb}(HM:E (MS w W R m1 ae aa m3 ai vs ⟨o,C,r,vb,bE,bJ⟩ base H R' U cap))(au:vs.length<=900000)(bC:(vs.length:Int)-1=aV):PfC 13 W (MpR w R m1 ae aa m3 ai vs ⟨o,C,r,vb,bE,bJ⟩ base H (eK 5 C aV vb 0)) c0 c1 c2 c3 (hy w.heap.size) c5 cp cr cn bd ca (hy (w.heap.size+1+1)) (hA C) aM cx an cy ct cu cw bd ca:=by
 unfold PfC;exact xat
theorem OD{w W vb}(HM:E (MS w W R m1 ae aa m3 ai vs ⟨o,C,r,vb,bE,bJ⟩ base H R' U cap))(au:vs.length<=900000)(bC:(vs.length:Int)-1=aV):PfC 14 W (MpR w R m1 ae aa m3 ai vs ⟨o,C,r,vb,bE,bJ⟩ base H (eK 6 C aV 0 0)) c0 c1 c2 c3 (hy w.heap.size) c5 cp cr cn bd ca (hy (w.heap.size+1+1)) (hA C) aM cx an cy ct cu cw bd ca:=by
 unfold PfC;intros;rename_i HK;have HC:E (∀az,Kept 0 0 W az->_):=λaz k=>MS.call HM.o k (eK 6 C aV 0 0) xaa;have aZ:=HM.o.g.c0;have ax:=HM.o.g.c1;have aU:=HM.o.g.c2;have G:E (∀W:World,_):=λW=>jO W R U aa m1 ae vs.length cap m3 ai xaa;rw[bC]at G;clear bC;conv=>arg 2;whnf
 go_region_with (first
  |(go_at_call 44;refine yaj (HC.o _ (((eG W).trans l).trans aw)) ?_;rintro e ag ⟨aq,cap',rfl,⟨u0,br⟩,⟨u1,ay⟩,⟨u2,a0⟩,al,_,aI⟩;have bZ:=al 0;have b5:=al 1;have b6:=al 2;clear al)
  |(go_at_call 47;refine yaj (G.o _) ?_;rintro e m ⟨rfl,l⟩;have bB:=(MS.keep HM.o ((eG W).trans l)).g.c0;have b8:=(MS.keep HM.o ((eG W).trans l)).g.c1;have cg:=(MS.keep HM.o ((eG W).trans l)).g.c2)
  |(go_at_call 46;refine yaj (ij _ _ _ _ _ _) ?_;rintro e aA ⟨rfl,aw⟩;have bK:=(MS.keep HM.o (((eG W).trans l).trans aw)).g.c0;have bu:=(MS.keep HM.o (((eG W).trans l).trans aw)).g.c1;have p2:=(MS.keep HM.o (((eG W).trans l).trans aw)).g.c2))
 all_goals exact HK _ ⟨_,_,_,⟨rfl,by simp⟩,by simp,aI⟩
variable{w:World}{R aa:Option Addr}{m1 ae cap m3 ai base aN i j aj:Nat}{vs:List Vl}{C r vb bE l d bg:Int}{bJ:Nat}
theorem q.qak(h:Zp:=by
 refine fk (Ow HM xaa ?_);clear HM;unfold PfK;intros;rename_i wc K;obtain⟨f,aq,cap',Z,B,HM⟩:=K;go_wp2_with fail;refine fk (OC HM xaa (show(f.length:Int)-1=(vs.length:Nat) by have:=Z.o.2;omega) ?_);clear HM;unfold PfK;intros;rename_i wc K;obtain⟨vs2,aq,cap',g,s,HM⟩:=K;go_wp2_with fail;refine fk (OD HM xaa (show(vs2.length:Int)-1=((vs.length:Nat)+1) by have:=Z.o.2;have:=g.o.2;omega) ?_);exact no_implicit_lambda% xbb):Zp:=h
open q in
theorem Lm(Y:MvH w cap base aN i vs ⟨5,C,r,vb,bE,bJ⟩):PtC w R aa m1 ae cap m3 ai base aN i vs 1 d ([eK 4 C d (i:Int) 0,eK 5 C ((vs.length:Nat):Int) vb 0,eK 6 C (((vs.length:Nat):Int)+1) 0 0],(((vs.length:Nat):Int)+2)) true:=by
 exact qaj
theorem r.qak(h:Zp:=by
 refine fk (On HM xaa ?_);exact no_implicit_lambda% xae):Zp:=h
open r in
theorem OE(Y:MvH w cap base aN i vs ⟨12,C,r,vb,bE,bJ⟩):PtC w R aa m1 ae cap m3 ai base aN i vs 0 d ([eK 11 1 d 0 bE],((vs.length:Nat):Int)) true:=by
 exact qaj
