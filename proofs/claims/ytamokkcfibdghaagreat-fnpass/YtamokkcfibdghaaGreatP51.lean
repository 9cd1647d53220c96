import Derived.Test.YtamokkcfibdghaaGreatP49
namespace Go.Proofs.Z
variable {Zp:Prop}
open Tryz
set_option maxRecDepth 1000000
set_option maxHeartbeats 0
open Go.RowKit Flt
attribute [local go_sem] eG eE eD
variable {bs:List Int}
theorem Z.qau(h:Zp:=by
 have R:(c:Int)%8=1:=xaa;have aP:V (∀H,Kept 0 0 W H->_):=λH b0=>HD.o.putU b0 (eL 6 m (x:Int) 0 0) (Nat.zero_lt_succ _) xaa;clear h;go_upto_region 26 with fail
 go_region_with (first
  |(go_at_call 32;refine yai (aP.o _ ((eF _).trans b0)) ?_;rintro e af ⟨us,aG,cap',rfl,cn,aB,aX⟩;obtain⟨_,bn,aC,a0,bq,br,bC⟩:=aB)
  |(go_at_call 34;refine yai (gQ _ _ _ _ _ _) ?_;rintro e H ⟨rfl,b0⟩;obtain⟨_,ba,aO,aR,_,_,_⟩:=(HD.o.keep ((eF _).trans b0)).bx))
 all_goals
  have B:V _:=cn.o
  have o:us.length<=1001:=hR cn.o.2
  clear HD aP bj aQ a6 an ao ap cn
  unfold fB at aX
  have HD:V _:=aX
  clear aX bn aC a0 bq br bC
  go_wp2_with fail
  refine Au (P:=Code.wp _ _ _ _) ?_
  intro aH i
  rw[<-i]at HD
  clear i
  obtain⟨_,bj,aQ,a6,an,ao,ap⟩:=HD.o.bx
  have aP:V (∀H,Kept 0 0 aH H->_):=λH b0=>HD.o.putU b0 (eL 6 m ((us.length:Int)-1) 0 0) (Nat.zero_lt_succ _) xaa
  have aK:V (∀W:World,_):=λW=>je W a1 (some ⟨aG,0,none⟩) a3 ins.length c1 us.length cap' outs.length c3 xaa
  have g:V (us.map sv=S++[eL 6 m x 0 0]/\(S.length:Int)=us.length-1):=⟨by rw[B.o.1,List.map_append,HSV.o];rfl,by have:=B.o.2;have:=congrArg List.length HSV.o;rw[List.length_map]at this;omega⟩
  clear B
  go_region_with (first
   |(go_at_call 32;refine yai (aP.o _ ((eF _).trans (l.trans b0))) ?_;rintro e af ⟨us,aG,cap',rfl,cn,aB,aX⟩;obtain⟨_,bn,aC,a0,bq,br,bC⟩:=aB)
   |(go_at_call 35;refine yai (aK.o _) ?_;rintro e ar ⟨rfl,l⟩;obtain⟨_,bk,a8,p2,_,_,_⟩:=(HD.o.keep ((eF _).trans l)).bx)
   |(go_at_call 34;refine yai (gQ _ _ _ _ _ _) ?_;rintro e H ⟨rfl,b0⟩;obtain⟨_,ba,aO,aR,_,_,_⟩:=(HD.o.keep ((eF _).trans (l.trans b0))).bx))
  all_goals
   rw[g.o.2]at aW
   exact aW.o (L2.of g.o.1 cn.o aX)):Zp:=h
open Z in
theorem PR{w W P n cap Q a a1 c1 a3 c3 ins outs S j base c d x m a2 c2 vs}(h:DgH w P n cap Q a bs a1 c1 a3 c3 ins outs S j base c d x m a2 c2 vs W)(ai:c%8=1):pX w P n cap Q a bs a1 c1 a3 c3 ins outs (S++[eL 6 m x 0 0]++[eL 6 m S.length 0 0],j) base c d x m W:=by
 exact no_implicit_lambda% qat
