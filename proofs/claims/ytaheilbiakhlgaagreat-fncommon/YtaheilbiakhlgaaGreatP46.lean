import Derived.Test.YtaheilbiakhlgaaGreatP44
namespace Go.Proofs.Z
variable{Zp:Prop}
open Tryz
set_option maxRecDepth 1000000
set_option maxHeartbeats 0
open Go.RowKit Flt
attribute[local go_sem] eF eE eD
variable{bs:List Int}
theorem Z.qau(h:Zp:=by
 have ai:(c:Int)%8=1:=xaa;have aL:V (∀bN,Kept 0 0 W bN->_):=λbN bT=>HD.o.putU bT (eK 6 m (x:Int) 0 0) (Nat.zero_lt_succ _) xaa;clear h;go_upto_region 26 with fail
 go_region_with (first
  |(go_at_call 37;refine yai (aL.o _ ((eG _).trans bT)) ?_;rintro e aG ⟨us,aA,cap',rfl,cy,a8,aH⟩;obtain⟨_,bo,az,aZ,bl,bG,bP⟩:=a8)
  |(go_at_call 39;refine yai (gS _ _ _ _ _ _) ?_;rintro e bN ⟨rfl,bT⟩;obtain⟨_,a7,aK,aP,_,_,_⟩:=(HD.o.keep ((eG _).trans bT)).bx))
 all_goals
  have U:V _:=cy.o
  have be:us.length<=1001:=hO cy.o.2
  clear HD aL bf aO aX B J ag cy
  unfold fF at aH
  have HD:V _:=aH
  clear aH bo az aZ bl bG bP
  go_wp2_with fail
  refine zO (P:=Code.wp _ _ _ _) ?_
  intro bn g
  rw[<-g]at HD
  clear g
  obtain⟨_,bf,aO,aX,B,J,ag⟩:=HD.o.bx
  have aL:V (∀bN,Kept 0 0 bn bN->_):=λbN bT=>HD.o.putU bT (eK 6 m ((us.length:Int)-1) 0 0) (Nat.zero_lt_succ _) xaa
  have aF:V (∀W:World,_):=λW=>je W a1 (some ⟨aA,0,none⟩) a3 ins.length c1 us.length cap' outs.length c3 xaa
  have bu:V (us.map sv=S++[eK 6 m x 0 0]/\(S.length:Int)=us.length-1):=⟨by rw[U.o.1,List.map_append,HSV.o];rfl,by have:=U.o.2;have:=congrArg List.length HSV.o;rw[List.length_map]at this;omega⟩
  clear U
  go_region_with (first
   |(go_at_call 37;refine yai (aL.o _ ((eG _).trans (p.trans bT))) ?_;rintro e aG ⟨us,aA,cap',rfl,cy,a8,aH⟩;obtain⟨_,bo,az,aZ,bl,bG,bP⟩:=a8)
   |(go_at_call 40;refine yai (aF.o _) ?_;rintro e bv ⟨rfl,p⟩;obtain⟨_,bi,a5,p2,_,_,_⟩:=(HD.o.keep ((eG _).trans p)).bx)
   |(go_at_call 39;refine yai (gS _ _ _ _ _ _) ?_;rintro e bN ⟨rfl,bT⟩;obtain⟨_,a7,aK,aP,_,_,_⟩:=(HD.o.keep ((eG _).trans (p.trans bT))).bx))
  all_goals
   rw[bu.o.2]at aQ
   exact aQ.o (L2.of bu.o.1 cy.o aH)):Zp:=h
open Z in
theorem Pu{w W P n cap Q a a1 c1 a3 c3 ins outs S j base c d x m Z c2 vs}(h:DgH w P n cap Q a bs a1 c1 a3 c3 ins outs S j base c d x m Z c2 vs W)(ak:c%8=1):pT w P n cap Q a bs a1 c1 a3 c3 ins outs (S++[eK 6 m x 0 0]++[eK 6 m S.length 0 0],j) base c d x m W:=by
 exact no_implicit_lambda% qat
