import Derived.Test.YtbhmhdllnfkjhaaGreatP51
namespace Go.Proofs.Z
variable{Zp:Prop}
open Tryz
set_option maxRecDepth 1000000
set_option maxHeartbeats 0
open Go.RowKit Flt
attribute[local go_sem] eG eE eD
variable{bs:List Int}
theorem Y.qau(h:Zp:=by
 have z:(c:Int)%8=1:=xaa;have aI:V (∀cj,Kept 0 0 W cj->_):=λcj bU=>HD.o.putU bU (eL 6 m (x:Int) 0 0) (Nat.zero_lt_succ _) xaa;clear h;go_upto_region 26 with fail
 go_region_with (first
  |(go_at_call 38;refine yaj (aI.o _ ((eF _).trans bU)) ?_;rintro e ag ⟨us,aB,cap',rfl,ba,aO,aA⟩;obtain⟨_,bm,ay,aW,bv,bA,bM⟩:=aO)
  |(go_at_call 40;refine yaj (gO _ _ _ _ _ _) ?_;rintro e cj ⟨rfl,bU⟩;obtain⟨_,bd,aL,aJ,_,_,_⟩:=(HD.o.keep ((eF _).trans bU)).bx))
 all_goals
  have J:V _:=ba.o
  have i:us.length<=1001:=hM ba.o.2
  clear HD aI bf aP aY B aj an ba
  unfold fw at aA
  have HD:V _:=aA
  clear aA bm ay aW bv bA bM
  go_wp2_with fail
  refine uL (P:=Code.wp _ _ _ _) ?_
  intro bi g
  rw[<-g]at HD
  clear g
  obtain⟨_,bf,aP,aY,B,aj,an⟩:=HD.o.bx
  have aI:V (∀cj,Kept 0 0 bi cj->_):=λcj bU=>HD.o.putU bU (eL 6 m ((us.length:Int)-1) 0 0) (Nat.zero_lt_succ _) xaa
  have aK:V (∀W:World,_):=λW=>jf W a1 (some ⟨aB,0,none⟩) a3 ins.length c1 us.length cap' outs.length c3 xaa
  have C:V (us.map sv=S++[eL 6 m x 0 0]/\(S.length:Int)=us.length-1):=⟨by rw[J.o.1,List.map_append,HSV.o];rfl,by have:=J.o.2;have:=congrArg List.length HSV.o;rw[List.length_map]at this;omega⟩
  clear J
  go_region_with (first
   |(go_at_call 38;refine yaj (aI.o _ ((eF _).trans (l.trans bU))) ?_;rintro e ag ⟨us,aB,cap',rfl,ba,aO,aA⟩;obtain⟨_,bm,ay,aW,bv,bA,bM⟩:=aO)
   |(go_at_call 41;refine yaj (aK.o _) ?_;rintro e a7 ⟨rfl,l⟩;obtain⟨_,a8,aV,p2,_,_,_⟩:=(HD.o.keep ((eF _).trans l)).bx)
   |(go_at_call 40;refine yaj (gO _ _ _ _ _ _) ?_;rintro e cj ⟨rfl,bU⟩;obtain⟨_,bd,aL,aJ,_,_,_⟩:=(HD.o.keep ((eF _).trans (l.trans bU))).bx))
  all_goals
   rw[C.o.2]at bV
   exact bV.o (L2.of C.o.1 ba.o aA)):Zp:=h
open Y in
theorem PU{w W P n cap Q a a1 c1 a3 c3 ins outs S j base c d x m Y c2 vs}(h:DgH w P n cap Q a bs a1 c1 a3 c3 ins outs S j base c d x m Y c2 vs W)(ad:c%8=1):qq w P n cap Q a bs a1 c1 a3 c3 ins outs (S++[eL 6 m x 0 0]++[eL 6 m S.length 0 0],j) base c d x m W:=by
 exact no_implicit_lambda% qat
